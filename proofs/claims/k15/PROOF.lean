import PyProof.Rows.All
import Wide.All
import OpenK.AllK
import Wide.FinOn
import HandS.ForMost
import HandS.Exc
import HandS.TryOnly
import HandS.ExcOwn
import HandS.WordsExc
import HandS.ExcInit
import HandS.ExcField
import HandS.IsInst
import HandS.Deep
import HandS.Walk
import HandS.Wide
import HandS.Style
import KE.KTupSum
import HandS.Property
import HandS.TupAny
import HandS.SetFor
import KE.GoesEnum
import KE.DataMinMax
import KE.KExcSuper
import KE.KSuper
import HandS.GenList
import HandS.Comp
import HandS.Words
import HandS.DictComp
import HandS.TupLen
import KE.KDictWalk
import KE.KDictDisplayH
import KE.SortData
import HandS.SortRule
import HandS.Sort
import HandS.DictSubView
import HandS.SetBool
import HandS.TupSets
import HandS.SortInts
import PyProof.TupleOfSeq
import HandS.Star
import KE.KExcLine
import PySem.Challenge.RW_heapsdouble_k15_whole_hardest_heaps
set_option Elab.async false
set_option linter.all false
set_option maxRecDepth 100000
set_option maxHeartbeats 2000000
/-! Rules of our own: xs[i] read for op=, sum of a tuple, enumerate of a tuple. -/
namespace Hd
open PySem PySem.Spec PyProof.Rows L2

theorem Same.tup {K : PySem.W.Frag} {H H' : Hp} {a : Addr} {xs : List V} (e : Same H H') (h : SqT K H a xs) : SqT K H' a xs := by
  rcases h with (h | ⟨o, h⟩) | h
  · exact .inl (.inl (e _ _ h))
  · exact .inl (.inr ⟨o, e _ _ h⟩)
  · exact .inr h
theorem Same.new {H : Hp} {p : Addr} {o : HO} (h : H p = none) : Same H (upd H p o) := fun a u e => by
  rw [upd_ne (ne_of_none e h)]
  exact e
theorem same_upd {H H' : Hp} {p : Addr} {o : HO} (e : Same H H') (h : H p = none) : Same H (upd H' p o) := fun a u ha => by
  rw [upd_ne (ne_of_none ha h)]
  exact e a u ha

/-- a def of one's own by its name: what a caller needs -/
structure Cal (P : Program) (w : World) (K : PySem.W.Frag) (mg : Str → Option Value) (base : Heap) (CX : CXT) (k : Nat) (x : Str) (ps : List Str) (sp : Sp) : Prop where
  ex : ∃ (f : Addr) (fd : FuncData), mg x = some (.ref f) ∧ PySem.W.keepIn K (.ref f) = true ∧ Binds K fd ps [] ∧ FnOk P w K mg base CX k f fd ps sp
def tCal (sp : Sp) (E : XK) (t : TA) : TE := fun σ H Q => t σ H fun vs H1 => sp vs H1 Q E
section
variable {X : Cx}
theorem pe_cal {CX : CXT} {j k : Nat} {x : Str} {ps : List Str} {sp : Sp} {E : XK} {e : Expr} {es : List Expr} {t : TA} {p pos : Pos} (C : Cal X.prog X.w X.K X.mg X.base CX j x ps sp) (hr : Room k X.A) (hg : Gl X x) (hx : Passes CX X E)
    (ha : PA X (e :: es) t) (hk : j ≤ k := by decide) (hdb : (x == ("__debug__" : Str)) = false := by decide) (he : starEach (e :: es) X.env = (false, eval e X.env) :: starEach es X.env := by rfl) (hpl : (backTo pos (starEach es X.env)).any (·.1) = false := by rfl) :
    PE X (.Call (.Name x p) (e :: es) [] pos) (tCal sp E t) := by
  obtain ⟨f, fd, hm, kp, hb, F⟩ := C.ex
  refine ⟨fun pins s σ H Q I h => (pe_call (dvs := []) F (hr.mono hk) hg hm kp hb .nil hx ha hdb he hpl).run pins s σ H Q I ?_⟩
  have e1 : (tCall sp [] E t) = tCal sp E t := by
    funext σ H Q
    unfold tCall tCal
    congr 1
    funext vs H1
    rw [List.append_nil]
  rw [e1]
  exact h
end

/-- a block cut behind its first statement: R is what every way through it brings -/
def tCutM (t u : TS) : TS := fun D σ H => ∃ R : L2.St → Hp → Prop, t { D with nx := R } σ H ∧ ∀ σ' H', R σ' H' → u D σ' H'
theorem pss_cutM {X : Cx} {st : Stmt} {rest : List Stmt} {t u : TS} (a : PS X st t) (b : PSs X rest u) : PSs X (st :: rest) (tCutM t u) := by
  refine ⟨fun pins s σ H D I hh => ?_⟩
  obtain ⟨R, hR, go⟩ := hh
  refine wpAny_execs_cons (thn (a.run pins s σ H { D with nx := R } I hR) fun f s1 q => ?_)
  cases f with
  | next =>
    obtain ⟨σ1, H1, I1, q1⟩ := q
    exact b.run pins s1 σ1 H1 D I1 (go σ1 H1 q1)
  | ret _ => exact q
  | brk => exact q
  | cont => exact q
section
variable {X : Cx}
/-- xs[k], 0 ≤ k, read for xs[k] op= e -/
def rGetL (K : PySem.W.Frag) : V → V → Hp → VK → Prop := fun o i H Q => ∃ p xs k v, o = .ref p ∧ i = .int k ∧ SqL K H p xs ∧ 0 ≤ k ∧ xs[k.toNat]? = some v ∧ Q v H
theorem pget_list : PGet X (rGetL X.K) := by
  intro pins s σ H o i ov iv Q I ro ri h
  obtain ⟨p, xs, k, v, rfl, rfl, hq, h0, he, q⟩ := h
  cases ro
  obtain ⟨t, rfl⟩ := ri
  obtain ⟨its, r, pl, hz⟩ := I.list hq
  obtain ⟨w, ew, rw'⟩ := r.get he
  have hl := r.length
  have hlt : k.toNat < its.length := (List.getElem?_eq_some_iff.mp ew).1
  have hb : k < 2 ^ 63 := by
    rw [sizeLine_eq] at hz
    omega
  exact wpAny_getItem_list pl.isList h0 hb (by simpa using ew) ⟨v, H, I, rw', q⟩

/-- sum(t) of a tuple of ints -/
def rSumT (K : PySem.W.Frag) : List V → Hp → VK → Prop := fun vs H Q => ∃ (a : Addr) (ns : List Int), vs = [V.ref a] ∧ SqT K H a (ns.map V.int) ∧ Q (.int ns.sum) H
theorem cr_sumT (hc : X.calm = true) : CallR X (.builtin "sum") (rSumT X.K) := by
  intro pins s σ H vs us Q I r h
  obtain ⟨a, ns, rfl, hs, q⟩ := h
  obtain ⟨its, rv, hl, _⟩ := I.tuple hs
  rw [Vals.ref1 r]
  have hi := rv.ints
  obtain ⟨xs, e⟩ := hi.allInts.items
  have hn : numsOf (intItems xs).toList = ns := by rw [← e]; exact hi.numsOf
  rw [nums_intItems] at hn
  rw [e] at hl
  refine PySem.W.ktm_sumG (I.ok.hd hc) hl fun h' tk t' hk => ?_
  rw [PySem.preSum_eq, List.take_of_length_le (by simp), hn]
  exact ⟨.int _, H, I.kept hk, ⟨_, rfl⟩, q⟩
end
end Hd
set_option maxHeartbeats 2000000
/-! Promises joined and widened; methods, properties and len of an own class by name; tuple.count. -/
namespace Hd
open PySem PySem.Spec PyProof.Rows L2

section
variable {P : Program} {w : World} {K : PySem.W.Frag} {mg : Str → Option Value} {base : Heap} {k k' : Nat} {f : Addr} {fd : FuncData} {ps : List Str} {sp sp' : Sp} {CX : CXT}
theorem fn_or (F : FnOk P w K mg base CX k f fd ps sp) (G : FnOk P w K mg base CX k f fd ps sp') : FnOk P w K mg base CX k f fd ps (fun vs H Q E => sp vs H Q E ∨ sp' vs H Q E) :=
  ⟨fun vs H Q E h => h.elim (F.len vs H Q E) (G.len vs H Q E), fun A outer s H args us vs Q E hr he hb hv h => h.elim (F.run A outer s H args us vs Q E hr he hb hv) (G.run A outer s H args us vs Q E hr he hb hv)⟩
/-- what raises nothing raises nothing of any kind -/
theorem fn_lift (F : FnOk P w K mg base CX0 k f fd ps sp) : FnOk P w K mg base CX k f fd ps sp :=
  ⟨F.len, fun A outer s H args us vs Q E hr he hb hv h => codeAny_mono (F.run A outer s H args us vs Q E hr he hb hv h) fun r s' q => by
    cases r with
    | error e => exact False.elim q
    | ok fl => cases fl <;> first | exact q | exact False.elim q⟩
/-- where no error is wished for, none leaves -/
theorem fn_calm (F : FnOk P w K mg base (L2.CX P w) k f fd ps sp) (h : ∀ vs H Q E, sp' vs H Q E → sp vs H Q E0) : FnOk P w K mg base CX0 k f fd ps sp' :=
  ⟨fun vs H Q E q => F.len vs H Q E0 (h _ _ _ _ q), fun A outer s H args us vs Q E hr he hb hv q => codeAny_mono (F.run A outer s H args us vs Q E0 hr he hb hv (h _ _ _ _ q)) fun r s' z => by
    cases r with
    | error e =>
      obtain ⟨_, _, _, _, _, _, _, _, _, _, _, _, z⟩ := z
      exact z
    | ok fl => cases fl <;> first | exact z | exact False.elim z⟩
end

section
variable {P : Program} {w : World} {K : PySem.W.Frag} {mg : Str → Option Value} {base : Heap} {k k' : Nat} {x : Str} {ps : List Str} {sp sp' : Sp} {CX : CXT}
theorem Cal.mono (c : Cal P w K mg base CX k x ps sp) (h : k ≤ k' := by decide) : Cal P w K mg base CX k' x ps sp := by
  obtain ⟨f, fd, a, b, c, F⟩ := c.ex
  exact ⟨f, fd, a, b, c, F.mono h⟩
theorem Cal.imp (c : Cal P w K mg base CX k x ps sp) (h : ∀ vs H Q E, sp' vs H Q E → sp vs H Q E) : Cal P w K mg base CX k x ps sp' := by
  obtain ⟨f, fd, a, b, c, F⟩ := c.ex
  exact ⟨f, fd, a, b, c, F.imp h⟩
theorem Cal.calm (c : Cal P w K mg base (L2.CX P w) k x ps sp) (h : ∀ vs H Q E, sp' vs H Q E → sp vs H Q E0) : Cal P w K mg base CX0 k x ps sp' := by
  obtain ⟨f, fd, a, b, c, F⟩ := c.ex
  exact ⟨f, fd, a, b, c, fn_calm F h⟩
theorem Cal.lift (c : Cal P w K mg base CX0 k x ps sp) : Cal P w K mg base CX k x ps sp := by
  obtain ⟨f, fd, a, b, c, F⟩ := c.ex
  exact ⟨f, fd, a, b, c, fn_lift F⟩
end

/-- a method of the class at C by its name -/
structure CalM (P : Program) (w : World) (K : PySem.W.Frag) (mg : Str → Option Value) (base : Heap) (CX : CXT) (k : Nat) (C : Addr) (m : Str) (ps : List Str) (sp : Sp) : Prop where
  ex : ∃ (f : Addr) (fd : FuncData), Meth K C m f ∧ Binds K fd ps [] ∧ FnOk P w K mg base CX k f fd ps sp
/-- a property of it -/
structure CalP (P : Program) (w : World) (K : PySem.W.Frag) (mg : Str → Option Value) (base : Heap) (CX : CXT) (k : Nat) (C : Addr) (m : Str) (ps : List Str) (sp : Sp) : Prop where
  ex : ∃ (p f : Addr) (fd : FuncData), PropOf K C m p f ∧ Binds K fd ps [] ∧ FnOk P w K mg base CX k f fd ps sp
/-- its making -/
structure CalN (P : Program) (w : World) (K : PySem.W.Frag) (mg : Str → Option Value) (base : Heap) (CX : CXT) (k : Nat) (C : Addr) (x : Str) (ps : List Str) (sp : Sp) : Prop where
  ex : ∃ (f : Addr) (fd : FuncData), mg x = some (.ref C) ∧ Mk K C f ∧ Binds K fd ps [] ∧ FnOk P w K mg base CX k f fd ps sp
theorem CalM.calm {P : Program} {w : World} {K : PySem.W.Frag} {mg : Str → Option Value} {base : Heap} {k : Nat} {C : Addr} {x : Str} {ps : List Str} {sp sp' : Sp} (c : CalM P w K mg base (L2.CX P w) k C x ps sp) (h : ∀ vs H Q E, sp' vs H Q E → sp vs H Q E0) : CalM P w K mg base CX0 k C x ps sp' := by
  obtain ⟨f, fd, a, b, F⟩ := c.ex
  exact ⟨f, fd, a, b, fn_calm F h⟩
section
variable {X : Cx} {CX : CXT} {j k : Nat} {C : Addr} {x m : Str} {ps : List Str} {sp : Sp} {E : XK} {e o : Expr} {es : List Expr} {ta : TE} {t : TA} {p pos apos : Pos}
theorem pe_cal0 (c : Cal X.prog X.w X.K X.mg X.base CX j x ps sp) (hr : Room k X.A) (hg : Gl X x) (hx : Passes CX X E) (hk : j ≤ k := by decide) (hdb : (x == ("__debug__" : Str)) = false := by decide) :
    PE X (.Call (.Name x p) [] [] pos) (tCal sp E tNil) := by
  obtain ⟨f, fd, hm, kp, hb, F⟩ := c.ex
  refine ⟨fun pins s σ H Q I h => (pe_call0 (dvs := []) F (hr.mono hk) hg hm kp hb .nil hx hdb).run pins s σ H Q I ?_⟩
  exact h
def tMth (C : Addr) (m : Str) (sp : Sp) (E : XK) (ta : TE) (t : TA) : TE := fun σ H Q => ta σ H fun x H1 => ∃ a dx fs, x = .ref a ∧ H1 a = some (.ins C dx fs) ∧ fs.lookup m = none ∧ t σ H1 fun vs H2 => sp (x :: vs) H2 Q E
theorem pe_mth {pl : Sem Bool} (c : CalM X.prog X.w X.K X.mg X.base CX j C m ps sp) (cl : Cls X.K C) (hr : Room k X.A) (hx : Passes CX X E) (he : PE X o ta) (ha : PA X (e :: es) t) (hk : j ≤ k := by decide)
    (hst : starEach (e :: es) X.env = (false, eval e X.env) :: starEach es X.env := by rfl) (hpl : (backTo pos (starEach es X.env)).any (·.1) = false := by rfl)
    (ht : eval (.Call (.Attribute o m apos) (e :: es) [] pos) X.env = (do
      let ov ← eval o X.env
      standAt apos.atName
      let (f, first) ← holding [ov] (getMethod ov m pl)
      callWith pos f first (backTo pos (starEach (e :: es) X.env)) (backToKw pos (keywordEach [] X.env))) := by rfl) :
    PE X (.Call (.Attribute o m apos) (e :: es) [] pos) (tMth C m sp E ta t) := by
  obtain ⟨f, fd, hm, hb, F⟩ := c.ex
  refine ⟨fun pins s σ H Q I h => (pe_meth (dvs := []) (ds := []) he cl hm F (hr.mono hk) hb .nil hx ha hst hpl ht).run pins s σ H Q I ?_⟩
  have e1 : tMeth C m sp [] E ta t = tMth C m sp E ta t := by
    funext σ H Q
    unfold tMeth tMth
    simp only [List.append_nil]
  rw [e1]
  exact h
theorem pe_mth0 {pl : Sem Bool} (c : CalM X.prog X.w X.K X.mg X.base CX j C m ps sp) (cl : Cls X.K C) (hr : Room k X.A) (hx : Passes CX X E) (he : PE X o ta) (hk : j ≤ k := by decide)
    (ht : eval (.Call (.Attribute o m apos) [] [] pos) X.env = (do
      let ov ← eval o X.env
      standAt apos.atName
      let (f, first) ← holding [ov] (getMethod ov m pl)
      callWith pos f first (backTo pos (starEach [] X.env)) (backToKw pos (keywordEach [] X.env))) := by rfl) :
    PE X (.Call (.Attribute o m apos) [] [] pos) (tMth C m sp E ta tNil) := by
  obtain ⟨f, fd, hm, hb, F⟩ := c.ex
  refine ⟨fun pins s σ H Q I h => (pe_meth0 (dvs := []) (ds := []) he cl hm F (hr.mono hk) hb .nil hx ht).run pins s σ H Q I ?_⟩
  have e1 : tMeth C m sp [] E ta tNil = tMth C m sp E ta tNil := by
    funext σ H Q
    unfold tMeth tMth
    simp only [List.append_nil]
  rw [e1]
  exact h
/-- o.m(e, ..) in a try's body -/
def tMthS (C : Addr) (m : Str) (sp : Sp) (E : L2.St → XK) (ta : TE) (t : TA) : TE := fun σ H Q => ta σ H fun x H1 => ∃ a dx fs, x = .ref a ∧ H1 a = some (.ins C dx fs) ∧ fs.lookup m = none ∧ t σ H1 fun vs H2 => sp (x :: vs) H2 Q (E σ)
theorem pe_mthS {E : L2.St → XK} {pl : Sem Bool} (c : CalM X.prog X.w X.K X.mg X.base CX j C m ps sp) (cl : Cls X.K C) (hr : Room k X.A) (hx : ∀ σ, PassesAt CX X σ (E σ)) (he : PE X o ta) (ha : PA X (e :: es) t) (hk : j ≤ k := by decide)
    (hst : starEach (e :: es) X.env = (false, eval e X.env) :: starEach es X.env := by rfl) (hpl : (backTo pos (starEach es X.env)).any (·.1) = false := by rfl)
    (ht : eval (.Call (.Attribute o m apos) (e :: es) [] pos) X.env = (do
      let ov ← eval o X.env
      standAt apos.atName
      let (f, first) ← holding [ov] (getMethod ov m pl)
      callWith pos f first (backTo pos (starEach (e :: es) X.env)) (backToKw pos (keywordEach [] X.env))) := by rfl) :
    PE X (.Call (.Attribute o m apos) (e :: es) [] pos) (tMthS C m sp E ta t) := by
  obtain ⟨f, fd, hm, hb, F⟩ := c.ex
  refine ⟨fun pins s σ H Q I h => ?_⟩
  refine PySem.W.methodCall_KW (pl := pl) (thn (he.run pins s σ H _ I h) fun u s1 ⟨x, H1, I1, rx, a, dx, fs, ex, ea, l, q⟩ => ?_) ht
  subst ex
  obtain rfl : u = Value.ref a := rx
  refine getmeth_ok I1 ea cl hm l ?_
  refine PySem.W.callWith_K (first := [.ref a]) (h₀ := X.base) I1.ok.mod.kin hm.kp (thn (ha.run pos pins s1 σ H1 _ I1 q) fun us s2 ⟨vs, H2, I2, r, q2⟩ => ⟨I2.kIn, ?_⟩) hst hpl
  exact run_fnS (us := .ref a :: us) (vs := .ref a :: vs) F (hr.mono hk) hb (hx σ) I2 (.cons rfl r) q2
/-- o.f, a property -/
def tPrp (C : Addr) (sp : Sp) (ta : TE) : TE := fun σ H Q => ta σ H fun x H1 => ∃ a dx fs, x = .ref a ∧ H1 a = some (.ins C dx fs) ∧ sp [.ref a] H1 Q E0
theorem pe_prp (c : CalP X.prog X.w X.K X.mg X.base CX0 j C m ps sp) (cl : Cls X.K C) (hr : Room k X.A) (he : PE X e ta) (hk : j + 1 ≤ k := by decide) (hab : attributeBase e m X.env (eval e X.env) = eval e X.env := by rfl) :
    PE X (.Attribute e m pos) (tPrp C sp ta) := by
  obtain ⟨p, f, fd, hp, hb, F⟩ := c.ex
  exact pe_prop (dvs := []) (ds := []) he cl hp F (hr.mono hk) hb .nil pass0 hab
/-- C(e, ..) -/
def tMak (C : Addr) (sp : Sp) (E : XK) (t : TA) : TE := fun σ H Q => t σ H fun vs H1 => ∀ x dx, H1 x = none → H1 dx = none → dx ≠ x → sp (.ref x :: vs) (upd (upd H1 dx (.own x)) x (.ins C dx [])) (fun v H2 => v = .non ∧ Q (.ref x) H2) E
theorem pe_mak (c : CalN X.prog X.w X.K X.mg X.base CX j C x ps sp) (hr : Room k X.A) (hg : Gl X x) (hx : Passes CX X E) (ha : PA X (e :: es) t) (hk : j + 1 ≤ k := by decide) (hdb : (x == ("__debug__" : Str)) = false := by decide)
    (he : starEach (e :: es) X.env = (false, eval e X.env) :: starEach es X.env := by rfl) (hpl : (backTo pos (starEach es X.env)).any (·.1) = false := by rfl) :
    PE X (.Call (.Name x p) (e :: es) [] pos) (tMak C sp E t) := by
  obtain ⟨f, fd, hm, M, hb, F⟩ := c.ex
  refine ⟨fun pins s σ H Q I h => (pe_make (dvs := []) (ds := []) M F (hr.mono hk) hg hm hb .nil hx ha hdb he hpl).run pins s σ H Q I ?_⟩
  have e1 : tMake C sp [] E t = tMak C sp E t := by
    funext σ H Q
    unfold tMake tMak
    simp only [List.append_nil]
  rw [e1]
  exact h
/-- len(o), o of an own class with __len__ -/
def rLenO (C : Addr) (sp : Sp) : List V → Hp → VK → Prop := fun vs H Q => ∃ a dx fs, vs = [V.ref a] ∧ H a = some (.ins C dx fs) ∧ sp [.ref a] H (fun v H' => ∃ n : Int, v = .int n ∧ 0 ≤ n ∧ n < 2 ^ 63 ∧ Q (.int n) H') E0
theorem call_lenO (c : CalM X.prog X.w X.K X.mg X.base CX0 j C "__len__" ps sp) (hr : Room k X.A) (hk : j + 1 ≤ k := by decide) : CallR X (.builtin "len") (rLenO C sp) := by
  obtain ⟨f, fd, hm, hb, F⟩ := c.ex
  intro pins s σ H vs us Q I r h
  obtain ⟨a, dx, fs, rfl, ea, q⟩ := h
  rw [Vals.ref1 r]
  obtain ⟨mA, O, _, _, _, _⟩ := ins_get I.hok ea
  obtain ⟨od, J, _⟩ := O.look
  have hr1 : Room j X.A.in1 := (hr.mono hk).in1
  refine Calls.call_function_entry kind_len plain_len entry_len (args_len1 _) ?_
  unfold Builtin.«len»
  refine wpAny_bind (m := oneArg "len" _) (wpAny_pure ?_)
  have hl : ([Value.ref a] ++ ([] : List Value)).length = ps.length := by
    rw [← F.len _ _ _ _ q]
    rfl
  have b := hb s [.ref a] I.kIn hl
  refine wpAny_bind (m := callSpecial? (.ref a) (Str.ofString "__len__")) (PySem.W.special_fn I.kIn J hm.at_ (beq_iff_eq.mp hm.fn) (wpAny_call (codeAny_mono (F.run X.A.in1 X.stack s H ⟨[.ref a], []⟩ [.ref a] [.ref a] _ E0 hr1 I.env0.in1 b (.cons rfl .nil) q) fun r s' hq => ?_)))
  cases r with
  | error er => exact False.elim hq
  | ok fl =>
    cases fl with
    | ret u =>
      obtain ⟨v, H', I3, rv, n, rfl, h0, h1, q3⟩ := I.after hq
      obtain ⟨t, rfl⟩ := rv
      refine wpAny_bind (wpAny_holding (wpAny_pure ?_))
      refine wpAny_bind (wpAny_letGo ?_)
      show wpAny _ _ (if n < 0 then _ else _) _ _ _
      rw [if_neg (by omega)]
      show wpAny _ _ (if n ≥ 2 ^ 63 then _ else _) _ _ _
      rw [if_neg (by omega)]
      exact wpAny_bind (wpAny_mkInt (wpAny_pure ⟨_, rfl, .int n, H', I3.tok _, ⟨_, rfl⟩, q3⟩))
    | next => exact False.elim hq
    | brk => exact False.elim hq
    | cont => exact False.elim hq
/-- t.count(k), a tuple of ints -/
def rCntT (K : PySem.W.Frag) : V → List V → Hp → VK → Prop := fun x xs H Q => ∃ (p : Addr) (ns : List Int) (k : Int), x = .ref p ∧ xs = [.int k] ∧ SqT K H p (ns.map V.int) ∧ Q (.int (ns.count k : Nat)) H
theorem mt_tcount : MtR X "tuple.count" (rCntT X.K) := by
  intro pins s σ H x xs v us Q I rx rxs h
  obtain ⟨p, ns, k, rfl, rfl, hs, q⟩ := h
  cases rx
  obtain ⟨u, rfl, ru⟩ := rxs.one
  obtain ⟨t, rfl⟩ := ru
  obtain ⟨its, rv, ⟨⟨cls, dd, data, sl⟩, ho, hc, n, hd⟩, hlen⟩ := I.tuple hs
  simp only at hc hd
  subst hc hd
  have hi := ints_of_vals rv
  refine call_meets PySem.F.slot_tuple_count ⟨_, ho, rfl⟩ PySem.F.entry_tuple_count (PySem.F.args_tuple_count_2 _ _)
    (SeqAt.tuple_countAt p its.toArray n dd sl (.int k t) (eqk k)) ⟨ho, fun y hy => (eqk_gives hi y (by simpa using hy)).at _ _, ?_⟩
  have ec : its.toArray.toList.countP (eqk k) = ns.count k := eqk_count hi
  refine ⟨.int (ns.count k : Nat), H, I.tok _, ⟨s.toks, ?_⟩, q⟩
  show Value.int ((its.toArray.toList.countP (eqk k) : Nat) : Int) s.toks = Value.int ((ns.count k : Nat) : Int) s.toks
  rw [ec]
end

theorem exm_self {K : PySem.W.Frag} {S : Addr} (b : PySem.W.subIn K (.ref S) (.type "BaseException") = some true) (i : PySem.W.isClsIn K S = true)
    (t : PySem.W.typeIn K (.ref S) = some (.type "type")) (s : PySem.W.subIn K (.ref S) (.ref S) = some true) : PySem.W.exmOne K (.ref S) (.ref S) = some true := by
  have i' : (PySem.W.clsIn K S).isSome = true := i
  have g1 : (PySem.W.subIn K (.ref S) (.type "BaseException") == some true) = true := by rw [b]; rfl
  have g2 : ((PySem.W.clsIn K S).isSome && PySem.W.typeIn K (.ref S) == some (.type "type")) = true := by rw [i', t]; rfl
  show (if (_ : Bool) = true then (if (_ : Bool) = true then PySem.W.subIn K (.ref S) (.ref S) else none) else none) = some true
  rw [if_pos g1, if_pos g2]
  exact s
theorem units64 {k : Nat} {A : Around} (r : Room k A) : A.units + 64 < cLine := by
  have := r.un
  omega
theorem units65 {k : Nat} {A : Around} (r : Room k A) : A.units + 65 < cLine := by
  have := r.un
  omega
/-- len within a comprehension -/
def rLenK (K : PySem.W.Frag) : List V → Hp → VK → Prop := fun xs H Q => ∃ p ys, xs = [V.ref p] ∧ (SqL K H p ys ∨ SqT K H p ys) ∧ Q (V.int ys.length) H
/-- a test whose answer is shown apart -/
theorem ifF {c : Bool} {a b : Prop} (h : c = false) (g : b) : (if c = true then a else b) := by
  rw [h]
  exact g
theorem ifT {c : Bool} {a b : Prop} (h : c = true) (g : a) : (if c = true then a else b) := by
  rw [h]
  exact g
/-! ### tuples that bear no dict: their methods can be called -/
def TupZ (H : Hp) (a : Addr) (xs : List V) : Prop := ∃ o : Obj, o.dict = none ∧ H a = some (.frz o (.tup xs))
theorem TupZ.sq {K : PySem.W.Frag} {H : Hp} {a : Addr} {xs : List V} (h : TupZ H a xs) : SqT K H a xs := by
  obtain ⟨o, _, h⟩ := h
  exact .inl (.inr ⟨o, h⟩)
theorem TupZ.same {H H' : Hp} {a : Addr} {xs : List V} (s : Same H H') (h : TupZ H a xs) : TupZ H' a xs := by
  obtain ⟨o, d, h⟩ := h
  exact ⟨o, d, s _ _ h⟩
section
variable {X : Cx} {es : List Expr} {t : TA} {pos : Pos}
def tTupZ (t : TA) : TE := fun σ H Q => t σ H fun xs H1 => xs.length ≤ sizeLine ∧ ∀ p o, H1 p = none → o.dict = none → Q (.ref p) (upd H1 p (.frz o (.tup xs)))
theorem pe_tupZ {x1} (h : PA X es t) : PE X (.Tuple es x1 pos) (tTupZ t) := by
  refine ⟨fun pins s σ H Q I hq => ?_⟩
  refine wpAny_Tuple_spliced (thn (h.run pos pins s σ H _ I hq) fun us s1 ⟨xs, H1, I1, r, z, q⟩ => ⟨by rw [← r.length]; exact z, ?_⟩)
  have hf : H1 s1.heap.objs.size = none := I1.hok.fresh (Nat.le_refl _)
  have hd : ({ cls := .type "tuple", data := .seq us.toArray } : Obj).dict = none := rfl
  refine ⟨.ref s1.heap.objs.size, upd H1 s1.heap.objs.size (.frz { cls := .type "tuple", data := .seq us.toArray } (.tup xs)), I1.laid (t' := s1.toks) (fun b u e => Heap.get?_push_of_some _ e) (Nat.le_refl _) ?_, rfl, q _ _ hf hd⟩
  exact ⟨Heap.get?_push_size _ rfl, z, us, r, ⟨_, Heap.get?_push_size _ rfl, rfl, _, rfl⟩⟩
/-- tuple(x) of a list -/
def rTupleZ (K : PySem.W.Frag) : List V → Hp → VK → Prop := fun xs H Q => ∃ p ys, xs = [V.ref p] ∧ SqL K H p ys ∧ ∀ l o, H l = none → o.dict = none → Q (.ref l) (upd H l (.frz o (.tup ys)))
theorem call_tupleZ : CallR X (.type "tuple") (rTupleZ X.K) := by
  intro pins s σ H xs us Q I r h
  obtain ⟨p, ys, rfl, hq, q⟩ := h
  rw [Vals.ref1 r]
  obtain ⟨its, r', pl, hz⟩ := I.list hq
  have hlen := r'.length
  refine call_tuple_list pl.isList (fun h' kp => ?_) (by simp only [List.size_toArray] <;> omega)
  have I1 : Inv X pins σ H { s with heap := h' } := I.kept (t' := s.toks) kp
  have I2 : Inv X pins σ (upd H h'.objs.size (.frz { cls := .type "tuple", data := .seq its.toArray } (.tup ys))) { s with heap := h'.push { cls := .type "tuple", data := .seq its.toArray } } :=
    I1.laid (t' := s.toks) (fun b o e => Heap.get?_push_of_some _ e) (Nat.le_refl _) (show ObjOk X.prog X.w _ _ _ (.frz _ (.tup ys)) from ⟨Heap.get?_push_size _ rfl, hz, its, r', IsTup.new _ _⟩)
  exact ⟨.ref h'.objs.size, _, I2, rfl, q _ _ (I1.hok.fresh (Nat.le_refl _)) rfl⟩
/-- o.m(e, ..), o such a tuple -/
def tBMT (r : V → List V → Hp → VK → Prop) (to : TE) (t : TA) : TE := fun σ H Q => to σ H fun x H1 => (∃ a xs, x = .ref a ∧ TupZ H1 a xs) ∧ t σ H1 fun vs H2 => r x vs H2 Q
theorem pe_bmT {o e : Expr} {to : TE} {name : Str} {apos cpos : Pos} {id : String} {r : V → List V → Hp → VK → Prop} (pa : PlainAttrs "tuple") (slot : Slot "tuple" name id) (hty : typeOf (.builtin id) = pure (.type "method_descriptor")) (hm : MtR X id r) (ho : PE X o to) (ha : PA X (e :: es) t)
    (hbase : attributeBase o name X.env (eval o X.env) = eval o X.env := by rfl)
    (hfew : ((backTo cpos (starEach (e :: es) X.env)).all (fun x => !x.1) && (backToKw cpos (keywordEach [] X.env)).all (fun x => x.1.isSome)
      && decide ((e :: es).length + ([] : List Keyword).length + (if ([] : List Keyword).isEmpty then 0 else 1) < 30)) = true := by rfl)
    (hline : (apos.endLine == cpos.line) = true := by rfl) (hs : starEach (e :: es) X.env = (false, eval e X.env) :: starEach es X.env := by rfl) (hplain : (backTo cpos (starEach es X.env)).any (·.1) = false := by rfl) :
    PE X (.Call (.Attribute o name apos) (e :: es) [] cpos) (tBMT r to t) := by
  refine ⟨fun pins s σ H Q I h => ?_⟩
  refine wpAny_Call_method_late hbase hfew hline rfl (thn (ho.run pins s σ H _ I h) fun v s1 ⟨x, H1, I1, r1, ⟨a, xs, ex, ob, hd, hA⟩, q1⟩ => ?_)
  subst ex
  obtain rfl : v = Value.ref a := r1
  obtain ⟨hg, _, its, rv, o2, h2, hc, n, hdt⟩ := (show ObjOk X.prog X.w H1 s1.heap a (.frz ob (.tup xs)) from I1.hok a _ hA)
  have e2 : o2 = ob := Option.some.inj (h2.symm.trans hg)
  subst e2
  refine ⟨"tuple", id, pa, slot, hty, ⟨_, hg, hc⟩, fun b eb => ?_, ?_⟩
  · cases eb
    exact ⟨_, hg, hd⟩
  have hA := ha.run cpos pins s1 σ H1 _ I1 q1
  rw [hs] at hA ⊢
  refine Calls.callWith_builtin (by show (false || (backTo cpos (starEach es X.env)).any (·.1)) = false; rw [hplain] <;> rfl) (Calls.evalArgs_plain ?_)
  exact thn hA fun us s2 ⟨vs, H2, I2, r2, q2⟩ => hm pins s2 σ H2 (.ref a) vs (.ref a) us Q I2 rfl r2 q2
end
/-- a new tuple handed back: that it bears no dict is forgotten -/
theorem ok_thaw {P : Program} {w : World} {H : Hp} {h : Heap} {a : Addr} {o : Obj} {xs : List V} (ok : HOk P w H h) (ha : H a = some (.frz o (.tup xs))) : HOk P w (upd H a (.tup xs)) h := fun b u e => by
  by_cases q : b = a
  · subst q
    rw [upd_same] at e
    cases e
    obtain ⟨_, z⟩ := (show ObjOk P w H h b (.frz o (.tup xs)) from ok b _ ha)
    exact z
  · rw [upd_ne q] at e
    exact (ok b u e).stay (fun c v _ r => r) (fun c r => by rw [upd_ne (ne_of r ha (by intro z; cases z))]; exact r) fun c ys r => by rw [upd_ne (ne_of r ha (by intro z; cases z))]; exact r
theorem un_thaw {fs ex : List Addr} {H H' : Hp} {h h' : Heap} {a : Addr} {o : HO} (u : Un fs ex H H' h h') (h0 : H a = none) (hs : ∃ v, H' a = some v) : Un fs ex H (upd H' a o) h h' :=
  ⟨u.keep, u.slot, fun b ob q n hx => by
    have z := u.free b ob q n hx
    by_cases e : b = a
    · subst e
      obtain ⟨v, hv⟩ := hs
      rw [hv] at z
      cases z
    · rw [upd_ne e]
      exact z, u.there, fun b xs e => by rw [upd_ne (ne_of_none e h0)]; exact u.tups b xs e, fun b ob v e => by rw [upd_ne (ne_of_none e h0)]; exact u.frzs b ob v e, fun b ps e => by
    obtain ⟨more, z⟩ := u.tbls b ps e
    exact ⟨more, by rw [upd_ne (ne_of_none e h0)]; exact z⟩⟩
theorem fn_thaw {P : Program} {w : World} {K : PySem.W.Frag} {mg : Str → Option Value} {base : Heap} {k : Nat} {f : Addr} {fd : FuncData} {ps : List Str} {sp sp' : Sp} {CX : CXT} (F : FnOk P w K mg base CX k f fd ps sp)
    (h : ∀ vs H Q E, sp' vs H Q E → sp vs H (fun v H' => ∃ a o xs, v = .ref a ∧ H a = none ∧ H' a = some (.frz o (.tup xs)) ∧ Q v (upd H' a (.tup xs))) E) : FnOk P w K mg base CX k f fd ps sp' :=
  ⟨fun vs H Q E q => F.len vs H _ E (h _ _ _ _ q), fun A outer s H args us vs Q E hr he hb hv q => codeAny_mono (F.run A outer s H args us vs _ E hr he hb hv (h _ _ _ _ q)) fun r s' z => by
    cases r with
    | error e => exact z
    | ok fl =>
      cases fl with
      | ret u =>
        obtain ⟨v, H', z1, z2, z3, z4, z5, a, o, xs, rfl, h0, h1, q'⟩ := z
        exact ⟨_, _, z1, z2, un_thaw z3 h0 ⟨_, h1⟩, ok_thaw z4 h1, z5, q'⟩
      | next => exact z
      | brk => exact z
      | cont => exact z⟩
theorem Cal.thaw {P : Program} {w : World} {K : PySem.W.Frag} {mg : Str → Option Value} {base : Heap} {k : Nat} {x : Str} {ps : List Str} {sp sp' : Sp} {CX : CXT} (c : Cal P w K mg base CX k x ps sp)
    (h : ∀ vs H Q E, sp' vs H Q E → sp vs H (fun v H' => ∃ a o xs, v = .ref a ∧ H a = none ∧ H' a = some (.frz o (.tup xs)) ∧ Q v (upd H' a (.tup xs))) E) : Cal P w K mg base CX k x ps sp' := by
  obtain ⟨f, fd, a, b, c, F⟩ := c.ex
  exact ⟨f, fd, a, b, c, fn_thaw F h⟩
theorem same_thaw {H H' : Hp} {a : Addr} {o : HO} (s : Same H H') (h : H a = none) : Same H (upd H' a o) := same_upd s h
end Hd
set_option maxHeartbeats 4000000
/-! enumerate of a tuple. -/
namespace Hd
open PySem PySem.Spec PyProof.Rows L2
open AutoSeq1 (wpAny_loadPart')
theorem enumNewT (q : Addr) (zs : Array Value) (m : Nat) (od : Option Addr) (so : Array (Option Value)) :
    Meets (Builtin.«enumerate.__new__» ⟨[.type "enumerate", .ref q], []⟩) (fun _ R s =>
      s.heap.get? q = some { cls := .type "tuple", dict := od, data := .seq zs m, slots := so } ∧
      R (.ok (.ret (.ref (s.heap.push { cls := .type "tuple_iterator", data := .fields #[.ref q, .int 0 0] }).objs.size)))
        ⟨(s.heap.push { cls := .type "tuple_iterator", data := .fields #[.ref q, .int 0 0] }).push
              { cls := .type "enumerate", data := .fields #[.none, .bool false, .ref s.heap.objs.size, rawInt 0, .none, .none] }, s.gens, s.drawn, s.toks, s.os⟩) :=
  .of_wp fun P0 w0 A0 R0 s0 k0 => by
    obtain ⟨h0, g0, d0, t0, o0⟩ := s0
    obtain ⟨hq, k0⟩ := k0
    have subE := sub_enumerate
    have isT : Heap.IsTuple (Shared.heap ⟨h0, g0, d0, t0, o0⟩) q zs := ⟨_, hq, rfl, m, rfl⟩
    wp_walk using wpAny_loadPart' hq
    refine wpAny_stack_any fun _ => wpAny_pure ?_
    split
    · rename_i c _ _ _ _ _
      cases (c == Value.type "enumerate") <;> (wp_walk using wpAny_loadPart' hq, wpAny_pyIter_tuple isT; exact ⟨_, rfl, k0⟩)
    · wp_walk using wpAny_loadPart' hq, wpAny_pyIter_tuple isT
      exact ⟨_, rfl, k0⟩
theorem enumCallT {prog : Program} {w : World} {A : Around} {E : Value → Shared → Prop} {s : Shared} {q : Addr} {zs : Array Value} {Q : Value → Shared → Prop} (isT : s.heap.IsTuple q zs)
    (k : ∀ h', IsEnum h' (s.heap.objs.size + 1) s.heap.objs.size 0 .none → h'.IsTupleIter s.heap.objs.size q 0 → (∀ b o, s.heap.get? b = some o → h'.get? b = some o) → Q (.ref (s.heap.objs.size + 1)) { s with heap := h' }) :
    wpAny (model prog w) A (call (.type "enumerate") [.ref q]) Q E s := by
  obtain ⟨⟨oc, od, dt, so⟩, hq, hc, m, hd⟩ := isT
  replace hc : oc = .type "tuple" := hc
  replace hd : dt = .seq zs m := hd
  subst hc hd
  refine callType_new F.called_enumerate (by decide) (F.typeCall_enumerate_1 _) (F.newCall_enumerate_1 _)
    (fun obj => F.args_object_init_2 obj _) F.entry_enumerate_new (enumNewT q zs m od so) ⟨hq, ?_⟩
  have hz : (s.heap.push { cls := .type "tuple_iterator", data := .fields #[.ref q, .int 0 0] }).objs.size = s.heap.objs.size + 1 := Heap.size_push ..
  show _ ∧ _
  rw [hz]
  have he : IsEnum ((s.heap.push { cls := .type "tuple_iterator", data := .fields #[.ref q, .int 0 0] }).push
      { cls := .type "enumerate", data := .fields #[.none, .bool false, .ref s.heap.objs.size, rawInt 0, .none, .none] })
      (s.heap.objs.size + 1) s.heap.objs.size 0 .none := by
    have := Heap.get?_push_size (s.heap.push { cls := .type "tuple_iterator", data := .fields #[.ref q, .int 0 0] })
      (o := { cls := .type "enumerate", data := .fields #[.none, .bool false, .ref s.heap.objs.size, rawInt 0, .none, .none] }) rfl
    rw [hz] at this
    exact this
  exact ⟨⟨_, he, rfl⟩, k _ he ⟨({ cls := .type "tuple_iterator", data := .fields #[.ref q, .int 0 0] } : Obj), Heap.get?_push_of_some _ (Heap.get?_push_size _ rfl), rfl, rfl⟩
    fun b o x => Heap.get?_push_of_some _ (Heap.get?_push_of_some _ x)⟩
/-- the tuple at a, each item in a new pair -/
def IteT (K : PySem.W.Frag) (a : Addr) : It where
  go := fun i H => ∃ (xs : List V) (x : V), SqT K H a xs ∧ xs[i]? = some x
  yld := fun i H v H' => ∃ T x, v = .ref T ∧ H T = none ∧ H' = upd H T (.tup [.int (i : Nat), x]) ∧ ∀ xs, SqT K H a xs → xs[i]? = some x
  stop := fun i H => ∃ xs : List V, SqT K H a xs ∧ xs.length = i
theorem tupNe {h : Heap} {a it : Addr} {zs : Array Value} {i : Nat} (t : h.IsTuple a zs) (j : h.IsTupleIter it a i) : a ≠ it := fun z => by
  obtain ⟨o, h1, h2, _⟩ := t
  obtain ⟨o', h3, h4, _⟩ := j
  rw [z, h3] at h1
  cases h1
  rw [h2] at h4
  injection h4 with h5
  exact absurd h5 (by decide)
theorem enumNe {h : Heap} {a e it : Addr} {zs : Array Value} {c : Int} {v : Value} (t : h.IsTuple a zs) (j : IsEnum h e it c v) : e ≠ a := fun z => by
  obtain ⟨o, h1, h2, _⟩ := t
  have j' : h.get? e = some _ := j
  rw [z, h1] at j'
  have j2 := Option.some.inj j'
  rw [j2] at h2
  injection h2 with h5
  exact absurd h5 (by decide)
theorem turn_enumT {P : Program} {w : World} {K : PySem.W.Frag} {elts : List Expr} {kk : Nat} {tpos : Pos} (a e it : Addr) :
    Turn P w K (.Tuple elts kk tpos) (IteT K a) [e, it] e (fun i h => (∃ old, IsEnum h e it ((i : Nat) : Int) old) ∧ h.IsTupleIter it a i ∧ e ≠ it) where
  mem := List.mem_cons_self
  obj := fun i h st b hb => by
    obtain ⟨⟨old, he⟩, ⟨o, ho, hc, hd⟩, _⟩ := st
    rcases (show b = e ∨ b = it by simpa using hb) with z | z
    · subst z
      exact ⟨_, he, fun v q => nomatch q⟩
    · subst z
      exact ⟨o, ho, fun v q => by rw [hd] at q; cases q⟩
  keep := fun i h h' st k => by
    obtain ⟨⟨old, he⟩, hi, hne⟩ := st
    exact ⟨⟨old, k e (by simp) _ he⟩, hi.at fun o q => k it (by simp) o q, hne⟩
  item := by
    intro X hP hw hK hc i pins s σ H E I hf st hg
    subst hP hw hK
    obtain ⟨⟨old, he⟩, hit, hne⟩ := st
    obtain ⟨xs, x, hq, hx⟩ := hg
    obtain ⟨its, rv, p, hz⟩ := I.tuple hq
    have isT : s.heap.IsTuple a its.toArray := p
    have hel : e < s.heap.objs.size := Heap.lt_size he
    have hil : it < s.heap.objs.size := by
      obtain ⟨_, q, _⟩ := hit
      exact Heap.lt_size q
    have hai := tupNe isT hit
    have hea := enumNe isT he
    have hlt : i < its.toArray.size := by
      have z := (List.getElem?_eq_some_iff.mp hx).1
      have l := rv.length
      simp
      omega
    have D := Draws.tuple (prog := X.prog) (w := X.w) (A := X.A.in1) (I.ok.hd hc) it a hai its.toArray
    refine wpAny_pyNext_enum_itemC D he ⟨hit, isT⟩ hlt hne (by simp [hne, hea]) fun u h' tk hu ho st' hT hsz hk => ?_
    refine ⟨_, rfl, wpAny_letOwnedTupleGo_enum (s := { s with heap := h', toks := tk + 1 }) ho fun h'' he' sb => ?_⟩
    obtain ⟨u', hu', ru⟩ := rv.get hx
    have euu : u' = u := by
      have z : its[i]? = some u := by simpa using hu
      rw [hu'] at z
      exact Option.some.inj z
    subst euu
    have hT2 : h''.get? s.heap.objs.size = some { cls := .type "tuple", data := .seq #[.int i tk, u'] } := (sb.2 _ (Nat.ne_of_gt hel)).trans hT
    have new : ObjOk X.prog X.w (upd H s.heap.objs.size (.tup [.int (i : Nat), x])) h'' s.heap.objs.size (.tup [.int (i : Nat), x]) :=
      ⟨by show 2 ≤ sizeLine; decide, [.int i tk, u'], .cons ⟨_, rfl⟩ (.cons ru .nil), ⟨_, hT2, rfl, _, rfl⟩⟩
    have J : Inv X pins σ (upd H s.heap.objs.size (.tup [.int (i : Nat), x])) { s with heap := h'', toks := tk + 1 } :=
      I.turnedNew (ch := [e, it]) (fun b ob hb q => (sb.2 b fun z => hb (by simp [z])).trans (hk b ob (fun z => hb (by simp [z])) (fun z => hb (by simp [z])) q)) hf (Nat.le_refl _) new
    refine ⟨.ref s.heap.objs.size, _, J, rfl, ⟨_, x, rfl, I.hok.fresh (Nat.le_refl _), rfl, fun ys hy => by rw [I.tuple_inj hy hq]; exact hx⟩,
      ⟨⟨u', ?_⟩, st'.1.at fun o q => (sb.2 it (Ne.symm hne)).trans q, hne⟩, fun b hb => ?_⟩
    · have e1 : ((i + 1 : Nat) : Int) = (i : Int) + 1 := by omega
      rw [e1]
      exact he'
    · have hb' : b < s.heap.objs.size := by
        rcases (show b = e ∨ b = it by simpa using hb) with z | z
        · rw [z]
          exact hel
        · rw [z]
          exact hil
      rw [upd_ne (Nat.ne_of_lt hb')]
      exact (hf b hb).1
  done := by
    intro X hP hw hK hc i pins s σ H E I hf st hg
    subst hP hw hK
    obtain ⟨⟨old, he⟩, hit, hne⟩ := st
    obtain ⟨xs, hq, hx⟩ := hg
    obtain ⟨its, rv, p, hz⟩ := I.tuple hq
    have isT : s.heap.IsTuple a its.toArray := p
    have hai := tupNe isT hit
    obtain ⟨f0, f1, f2, f3, f4, f5⟩ := hf it (by simp)
    have D := Draws.tuple (prog := X.prog) (w := X.w) (A := X.A.in1) (I.ok.hd hc) it a hai its.toArray
    have ei : its.toArray.size = i := by
      have l := rv.length
      simp
      omega
    refine wpAny_pyNext_enum_endD D he ⟨by rw [ei]; exact hit, isT⟩ fun h' eb => ⟨rfl, ?_⟩
    exact I.turned (t' := s.toks) (fun b o hb q => eb b o hb q) f0 f1 f3 f4 f5
  self := fun A i s Q E st k => by
    obtain ⟨⟨_, he⟩, _⟩ := st
    exact wpAny_pyIter_enum he k
def iEnumT (K : PySem.W.Frag) (ta : TA) : TI := fun σ H R => ta σ H fun vs H1 => ∃ a xs, vs = [.ref a] ∧ SqT K H1 a xs ∧ R (IteT K a) H1
theorem pi_enumT {X : Cx} {e : Expr} {ta : TA} {p pos tpos : Pos} {elts : List Expr} {kk : Nat} (hg : Gl X "enumerate") (hm : X.mg "enumerate" = none) (ha : PA X [e] ta)
    (hs : starEach [e] X.env = [(false, eval e X.env)] := by rfl) : PI X (.Tuple elts kk tpos) (.Call (.Name "enumerate" p) [e] [] pos) (iEnumT X.K ta) := by
  refine ⟨fun pins s σ H R I h => ?_⟩
  refine Call_ (ld_blt I hg hm boot_enumerate (PyProof.Rows.callWith_type1 (thn (ha.run pos pins s σ H _ I h) fun us s1 hh => ?_) hs rfl))
  obtain ⟨vs, H1, I1, r1, a, xs, ex, hq, q⟩ := hh
  subst ex
  rw [Vals.ref1 r1]
  obtain ⟨its, rv, p', hz⟩ := I1.tuple hq
  refine enumCallT (show s1.heap.IsTuple a its.toArray from p') fun h' he hit hk => wpAny_pyIter_enum he ?_
  have I2 : Inv X pins σ H1 { s1 with heap := h' } := I1.kept (t' := s1.toks) hk
  refine ⟨s1.heap.objs.size + 1, [s1.heap.objs.size + 1, s1.heap.objs.size], _, _, H1, rfl, I2, turn_enumT a (s1.heap.objs.size + 1) s1.heap.objs.size,
    ⟨⟨.none, he⟩, hit, Nat.succ_ne_self _⟩, fun b hb => ?_, q⟩
  have hle : s1.heap.objs.size ≤ b := by
    rcases (show b = s1.heap.objs.size + 1 ∨ b = s1.heap.objs.size by simpa using hb) with z | z
    · rw [z]
      exact Nat.le_add_right _ _
    · rw [z]
      exact Nat.le_refl _
  exact I1.fpOk hle (I1.hok.fresh hle)
theorem walk_enumT {K : PySem.W.Frag} {a : Addr} {xs : List V} : Walk (IteT K a) xs.length (fun H => SqT K H a xs) (YPair (fun i => some (.int (i : Nat))) (fun i => xs[i]?)) := by
  refine ⟨fun i _ hi q => ⟨xs, xs[i], q, by simp [hi]⟩, fun _ q => ⟨xs, q, rfl⟩, fun i H v H' _ q y => ?_⟩
  obtain ⟨T, x, h1, h2, h3, h4⟩ := y
  exact ⟨T, .int (i : Nat), x, h1, h2, h3, rfl, h4 xs q⟩
end Hd
set_option maxHeartbeats 4000000
/-! min and max of a tuple of ints. -/
namespace Hd
open PySem PySem.Spec PyProof.Rows L2
theorem reads_ints {h : Heap} : ∀ {us : List Value} {ns : List Int}, IntsAre us ns → ReadsAll h us (ns.map PyData.int) []
  | _, _, .nil => .nil
  | _, _, .cons n t r => ReadsAll.cons (as := []) (bs := []) (.int n t) (reads_ints r)
theorem deep_ints : ∀ ns : List Int, PyData.depthAll (ns.map PyData.int) = 0
  | [] => by simp [PyData.depthAll]
  | n :: ns => by
    have := deep_ints ns
    simp only [List.map_cons, PyData.depthAll, PyData.depth]
    omega
theorem alike_ints (ns : List Int) : PySem.W.AlikeAll (ns.map PyData.int) := by
  refine ⟨fun x hx y hy => ?_, fun x hx => ?_⟩
  · obtain ⟨n, _, rfl⟩ := List.mem_map.mp hx
    obtain ⟨m, _, rfl⟩ := List.mem_map.mp hy
    first | rfl | simp [PySem.W.alike]
  · obtain ⟨n, _, rfl⟩ := List.mem_map.mp hx
    intro z
    cases z
section
variable {X : Cx}
def rMinT (K : PySem.W.Frag) : List V → Hp → VK → Prop := fun vs H Q => ∃ (a : Addr) (n : Int) (ns : List Int), vs = [V.ref a] ∧ SqT K H a ((n :: ns).map V.int) ∧ Q (.int (ns.foldl min n)) H
def rMaxT (K : PySem.W.Frag) : List V → Hp → VK → Prop := fun vs H Q => ∃ (a : Addr) (n : Int) (ns : List Int), vs = [V.ref a] ∧ SqT K H a ((n :: ns).map V.int) ∧ Q (.int (ns.foldl max n)) H
theorem cr_minT (hc : X.calm = true) (hu : X.A.units + 64 < cLine) : CallR X (.builtin "min") (rMinT X.K) := by
  intro pins s σ H vs us Q I r h
  obtain ⟨a, n, ns, rfl, hs, q⟩ := h
  obtain ⟨its, rv, hl, _⟩ := I.tuple hs
  rw [Vals.ref1 r]
  refine PySem.W.min_tuple_data (x := .int n) (xs := ns.map PyData.int) (I.ok.hd hc) (show s.heap.IsTuple a its.toArray from hl) (by simpa using reads_ints (h := s.heap) rv.ints) (alike_ints (n :: ns)) ?_ fun i v h' tk bs hv hr hk => ?_
  · have := deep_ints (n :: ns)
    rw [List.map_cons] at this
    omega
  · rw [PySem.W.minD_ints] at hr
    cases hr with
    | int _ t => exact ⟨.int _, H, I.kept hk, ⟨t, rfl⟩, q⟩
theorem cr_maxT (hc : X.calm = true) (hu : X.A.units + 64 < cLine) : CallR X (.builtin "max") (rMaxT X.K) := by
  intro pins s σ H vs us Q I r h
  obtain ⟨a, n, ns, rfl, hs, q⟩ := h
  obtain ⟨its, rv, hl, _⟩ := I.tuple hs
  rw [Vals.ref1 r]
  refine PySem.W.max_tuple_data (x := .int n) (xs := ns.map PyData.int) (I.ok.hd hc) (show s.heap.IsTuple a its.toArray from hl) (by simpa using reads_ints (h := s.heap) rv.ints) (alike_ints (n :: ns)) ?_ fun i v h' tk bs hv hr hk => ?_
  · have := deep_ints (n :: ns)
    rw [List.map_cons] at this
    omega
  · rw [PySem.W.maxD_ints] at hr
    cases hr with
    | int _ t => exact ⟨.int _, H, I.kept hk, ⟨t, rfl⟩, q⟩
end
end Hd
set_option maxHeartbeats 4000000
/-! raise X() of an own class whose base's __init__ says super().__init__(). -/
namespace Hd
open PySem PySem.W PySem.Calls PyProof.Rows
/-- the scope of def __init__(self): super().__init__() -/
def hiScope : Scope := { kind := .function, names := [(PySem.Str.ofString "self", .local), (PySem.Str.ofString "__class__", .free), (PySem.Str.ofString "super", .globalImplicit)], isGenerator := false, isCoroutine := false, more := [] }
/-- the base's __init__ as the top leaves it: a def that closes over its class -/
structure SupDef (prog : Program) (K : Frag) (fI D : Addr) : Prop where
  ex : ∃ (oc : Value) (od an : Option Addr) (params : Arguments) (qual : Str) (dV kV doc pm ct : Value) (cc cda : Addr) (osl : Array (Option Value)) (p0 p1 ap cp ep : Pos) (ar : Arg)
      (ccl cl : Value) (cdd cld : Option Addr) (vs : Array Value) (ccs csl : Array (Option Value)) (file : Str) (tf : Tok) (cdD : ClassData),
    K.lookup fI = some ⟨oc, od, .func (fnX "__init__" qual params [.Expr (.Call (.Attribute (.Call (.Name "super" p0) [] [] p1) "__init__" ap) [] [] cp) ep] hiScope [("__class__", cc)] dV kV doc pm an (.ref cda) ct), osl⟩ ∧
    codeIn K (.ref cda) qual = true ∧ (params.posonlyargs ++ params.args).head? = some ar ∧ ar.arg = "self" ∧
    (∀ v : Value, bindArgs (fnX "__init__" qual params [.Expr (.Call (.Attribute (.Call (.Name "super" p0) [] [] p1) "__init__" ap) [] [] cp) ep] hiScope [("__class__", cc)] dV kV doc pm an (.ref cda) ct) ⟨[v], []⟩ = pure [(("self" : Str), v)]) ∧
    (∀ L : Addr, ∃ pl : Sem Bool, eval (.Call (.Attribute (.Call (.Name "super" p0) [] [] p1) "__init__" ap) [] [] cp) (callEnv (fnX "__init__" qual params [.Expr (.Call (.Attribute (.Call (.Name "super" p0) [] [] p1) "__init__" ap) [] [] cp) ep] hiScope [("__class__", cc)] dV kV doc pm an (.ref cda) ct) L fI) = (do
      let ov ← attributeBase (.Call (.Name "super" p0) [] [] p1) "__init__" (callEnv (fnX "__init__" qual params [.Expr (.Call (.Attribute (.Call (.Name "super" p0) [] [] p1) "__init__" ap) [] [] cp) ep] hiScope [("__class__", cc)] dV kV doc pm an (.ref cda) ct) L fI) (eval (.Call (.Name "super" p0) [] [] p1) (callEnv (fnX "__init__" qual params [.Expr (.Call (.Attribute (.Call (.Name "super" p0) [] [] p1) "__init__" ap) [] [] cp) ep] hiScope [("__class__", cc)] dV kV doc pm an (.ref cda) ct) L fI))
      standAt ap.atName
      let (f, first) ← holding [ov] (getMethod ov "__init__" pl)
      callWith cp f first (backTo cp (starEach [] (callEnv (fnX "__init__" qual params [.Expr (.Call (.Attribute (.Call (.Name "super" p0) [] [] p1) "__init__" ap) [] [] cp) ep] hiScope [("__class__", cc)] dV kV doc pm an (.ref cda) ct) L fI))) [])) ∧
    K.lookup cda = some ⟨ccl, cdd, .fields vs, ccs⟩ ∧ vs[2]? = some (.str file tf) ∧ ((prog.main.file : Str) == file) = true ∧
    K.lookup cc = some ⟨cl, cld, .cell (some (.ref D)), csl⟩ ∧ clsIn K D = some cdD
  tI : typeIn K (.ref fI) = some (.type "function")
  sup : nsIn K mainGlobals "super" = some none
  thr : nsIn K cStatics "thirdparty.any" = some none
  top : (prog.main.scope.names.lookup ("super" : Str)).isSome = false
/-- an own class under it -/
structure NilC (K : Frag) (C D fI : Addr) : Prop where
  cls : ∃ nm q N bs bm sn sub ab col dd k0 k1 k2 k3 k5, K.lookup C = some (excClassObj nm q C N bs bm true sn sub ab col dd k0 k1 k2 k3 k5 "ValueError.__new__") ∧ PySem.HandSPX.refsVE bm = true
  ini : findIn K (.ref C) "__init__" = some (some (.ref fI))
  sup : ks_superIn K C D "__init__" = some (some (.builtin "ValueError.__init__"))
  sub : mroIn K C (.ref D) = some true
  ve : subIn K (.ref C) (.type "ValueError") = some true
  xin : excInitIn K C [.type "ValueError", .type "Exception", .type "BaseException", .type "object"] "ValueError.__new__" = true
theorem boot_super : bootBuiltins "super" = some (.type "super") := by first | boot_by_name | decide +kernel | rfl
section
variable {prog : Program} {w : World} {A : Around} {R : Result → Shared → Prop} {s : Shared} {K : Frag} {mg mb : Str → Option Value} {C D fI : Addr}
/-- the call of the __init__ on an exception at x that is being made -/
theorem nil_init (S : SupDef prog K fI D) (T : NilC K C D fI) {x t0 : Addr} (X : K.In s.heap) (hxK : K.lookup x = none) (G : s.heap.Ns mainGlobals mg) (Bn : s.heap.Ns builtinsNs mb) (hbb : ∀ z : Str, z ≠ "__name__" → mb z = bootBuiltins z)
    (hlim : s.heap.NoLimit) (hx : s.heap.get? x = some (excObj C t0 none .none)) (hroom : A.depth < recursionLimit)
    (hq : ∀ h' tk t1, (∀ b o, b ≠ x → s.heap.get? b = some o → h'.get? b = some o) → h'.get? x = some (excObj C t1 none .none) → R (.ok (.ret .none)) ⟨h', s.gens, s.drawn, tk, s.os⟩) :
    codeAny (model prog w) A (.call (.ref fI) ⟨[.ref x], []⟩) R s := by
  obtain ⟨oc, od, an, params, qual, dV, kV, doc, pm, ct, cc, cda, osl, p0, p1, ap, cp, ep, ar, ccl, cl, cdd, cld, vs, ccs, csl, file, tf, cdD, lf, hcd, hp, har, hb, hev, lc, hvs, hfile, lcell, hD⟩ := S.ex
  obtain ⟨nm, q, N, bs, bm, sn, sub, ab, col, dd, k0', k1, k2, k3, k5, hC, hbm⟩ := T.cls
  have hsu : hiScope.names.lookup ("super" : Str) = some .globalImplicit := by decide +kernel
  have hcl : hiScope.names.lookup ("__class__" : Str) = some .free := by decide +kernel
  have hse : hiScope.names.lookup ("self" : Str) = some .local := by decide +kernel
  have hnc : ∀ y ∈ hiScope.names, y.2 ≠ .cell := by decide +kernel
  have hk : hiScope.kind = .function := rfl
  have hmg : mg "super" = none := mg_none_of X G S.sup
  obtain ⟨hp0, g, d, tk, os⟩ := s
  have k0 : ∀ b o, (hideAll hp0 [x]).get? b = some o → hp0.get? b = some o := fun b o e => of_hideAll _ e
  have hxn : (hideAll hp0 [x]).get? x = none := hideAll_none _ (by simp)
  have hle : (hideAll hp0 [x]).objs.size = hp0.objs.size := hideAll_size _ _
  have X₀ : K.In (hideAll hp0 [x]) := fun b o e => hideAll_get _ (X b o e) (by
    intro z
    have z' : b = x := by simpa using z
    rw [z', hxK] at e
    cases e)
  refine ks_codeAny_call_defAt (fd := fnX "__init__" qual params [.Expr (.Call (.Attribute (.Call (.Name "super" p0) [] [] p1) "__init__" ap) [] [] cp) ep] hiScope [("__class__", cc)] dV kV doc pm an (.ref cda) ct)
    (binds := [("self", .ref x)]) hroom (X _ _ lf) rfl hlim (codeRec_of X hcd) rfl (.of_eq (hb _)) hnc (fun y hy => ?_) (fun h₁ hns kk => ?_) rfl rfl rfl
  · have e : y = (("self" : Str), Value.ref x) := by simpa using hy
    subst e
    exact hse
  have X1 : K.In h₁ := X.keeps kk
  have hx1 : h₁.get? x = some (excObj C t0 none .none) := kk _ _ hx
  have Lne : hp0.objs.size ≠ x := Nat.ne_of_gt (Heap.lt_size hx)
  obtain ⟨pl, he⟩ := hev hp0.objs.size
  refine ks_wpAt_execs_cons (ks_wpAt_Expr_any (ks_wpAt_MethodCall (pl := pl) ?_ he) (by show interactive _ = false; simp [interactive, callEnv, newEnv, hk]))
  refine ks_wpAt_super_base hsu hcl (by decide) rfl (X1 _ _ lf) rfl hp rfl (X1 _ _ lc) rfl hvs hfile S.top ?_
  have X1' := X1
  refine ks_loadName_global hk hsu (loadGlobal_builtin (G.keeps kk) hmg (Bn.keeps kk) ((hbb _ (by decide)).trans boot_super) ⟨rfl, ?_⟩)
  refine wpAny_loadName_free hk hcl rfl ⟨_, X1 _ _ lcell, rfl⟩ ?_
  refine wpAny_loadName_local hk (by rw [har]; exact hse) hns (by rw [har]; rfl) ?_
  obtain ⟨oD, hD1, hD2⟩ : ∃ oD, h₁.get? D = some oD ∧ oD.data = .cls cdD := by
    unfold clsIn at hD
    split at hD
    · rename_i c d cd' sl ho
      cases hD
      exact ⟨_, X1 _ _ ho, rfl⟩
    · cases hD
  refine ks_wpAny_isType_cls hD1 hD2 ⟨rfl, ?_⟩
  refine ks_wpAny_call_super hD1 hD2 hx1 rfl (fun c e => nomatch e) (looks_mroIn X1 T.sub) (fun h2 e2 kk2 => ?_)
  have X2 : K.In h2 := X1.keeps kk2
  have hx2 := kk2 _ _ hx1
  have I2 : InstAt h2 x (excObj C t0 none .none) C none := ⟨hx2, rfl, rfl, trivial⟩
  have hsup := T.sup
  cases hc : clsIn K C with
  | none =>
    unfold ks_superIn at hsup
    rw [hc] at hsup
    cases hsup
  | some cd =>
    unfold ks_superIn at hsup
    rw [hc] at hsup
    refine kxs_getMethod kxs_ValueError e2 (looks_opaque X2 S.thr) (l₀ := cd.mro) (fun A Q E s k q => wpAny_bind ((looks_clsIn X2 hc) A _ E s k (wpAny_pure q))) rfl X2 hsup
      (I2.type.andThen (looks_subIn X2 T.ve)) (ks_ne X2 I2 hc) (by decide) ?_
    have hu : (h2.push (kxs_mw "ValueError.__init__" x)).get? h2.objs.size = some (kxs_mw "ValueError.__init__" x) := Heap.get?_push_at rfl rfl
    have kk3 : ∀ b o, h2.get? b = some o → (h2.push (kxs_mw "ValueError.__init__" x)).get? b = some o := fun b o e => Heap.get?_push_of_some _ e
    have hx3 := kk3 _ _ hx2
    refine kxs_callWith (i := "ValueError.__init__") (x := x) rfl (evalArgs_empty ⟨hu, ?_⟩)
    show wpAny _ _ (call (.ref h2.objs.size) []) _ _ _
    have ns3 := (hns.keeps kk2).keeps kk3
    have lt2 : x < h2.objs.size := Heap.lt_size hx2
    have L1 : hp0.objs.size < h2.objs.size := by
      obtain ⟨oL, _, _, hL, _⟩ := hns
      exact Heap.lt_size (kk2 _ _ hL)
    have none0 : ∀ b, (hideAll hp0 [x]).objs.size ≤ b → (hideAll hp0 [x]).get? b = none := fun b hb => Heap.get?_none_of_le hb
    have FR : Fr (hideAll hp0 [x]) hp0.objs.size (h2.push (kxs_mw "ValueError.__init__" x)) (fun y => [(("self" : Str), Value.ref x)].reverse.lookup y) :=
      ⟨ns3, fun b o e => kk3 _ _ (kk2 _ _ (kk _ _ (k0 b o e))), Nat.le_of_eq hle⟩
    have NW : News (hideAll hp0 [x]) hp0.objs.size (h2.push (kxs_mw "ValueError.__init__" x)) [(h2.objs.size, kxs_mw "ValueError.__init__" x), (x, excObj C t0 none .none)] := fun p hp => by
      rcases List.mem_cons.mp hp with e | hp
      · subst e
        exact ⟨hu, Nat.ne_of_gt L1, none0 _ (by omega)⟩
      · have e : p = (x, excObj C t0 none .none) := by simpa using hp
        subst e
        exact ⟨hx3, Lne.symm, hxn⟩
    refine kxs_call (s := ⟨h2.push (kxs_mw "ValueError.__init__" x), g, d, _, os⟩) FR X₀ NW F.excBase_ValueError T.xin List.mem_cons_self (.tail (Nat.ne_of_gt lt2) (.head fun p hp => (nomatch hp))) (by show 0 ≤ sizeLine; decide) fun t1 h4 F4 N4 l4 => ?_
    refine wpAt_of_wpAny (wpAny_execs_nil ?_)
    refine hq h4 _ t1 (fun b o hb e => F4.keep b o (hideAll_get _ e (by simpa using hb))) (N4 (x, excObj C t1 none .none) (by simp)).1
/-- X() -/
theorem nil_made (S : SupDef prog K fI D) (T : NilC K C D fI) (X : K.In s.heap) (G : s.heap.Ns mainGlobals mg) (Bn : s.heap.Ns builtinsNs mb) (hbb : ∀ z : Str, z ≠ "__name__" → mb z = bootBuiltins z)
    (hlim : s.heap.NoLimit) (hroom : A.depth + 1 < recursionLimit)
    (hq : ∀ h' tk e t1, (∀ b o, s.heap.get? b = some o → h'.get? b = some o) → s.heap.objs.size ≤ e → h'.get? e = some (excObj C t1 none .none) → R (.ok (.ret (.ref e))) ⟨h', s.gens, s.drawn, tk, s.os⟩) :
    codeAny (model prog w) A (.call (.ref C) ⟨[], []⟩) R s := by
  obtain ⟨nm, q, N, bs, bm, sn, sub, ab, col, dd, k0, k1, k2, k3, k5, hC, hbm⟩ := T.cls
  obtain ⟨h0, g, d, tk, os⟩ := s
  have up : ∀ b o, h0.get? b = some o → ((h0.push (kdv_tup [])).push (PySem.HandSPX.excO C h0.objs.size)).get? b = some o := fun b o e => Heap.get?_push_of_some _ (Heap.get?_push_of_some _ e)
  have at1 : ((h0.push (kdv_tup [])).push (PySem.HandSPX.excO C h0.objs.size)).get? (h0.objs.size + 1) = some (PySem.HandSPX.excO C h0.objs.size) := by heap_get
  have new1 : K.lookup (h0.objs.size + 1) = none := by
    cases e : K.lookup (h0.objs.size + 1) with
    | none => rfl
    | some o => exact absurd (Nat.lt_of_succ_lt (Heap.lt_size (show h0.get? (h0.objs.size + 1) = some o from X _ _ e))) (Nat.lt_irrefl _)
  refine PySem.HandSPX.call_own F.excBase_ValueError (fun Y => PySem.HandSPX.refsVE_contains Y bm hbm) (X _ _ hC) (looks_findIn X T.ini) (fun self => bind_fn X self S.tI) (by show 0 ≤ sizeLine; decide) ?_
  refine nil_init (s := ⟨(h0.push (kdv_tup [])).push (PySem.HandSPX.excO C h0.objs.size), g, d, tk, os⟩) (x := h0.objs.size + 1) S T (X.keeps up) new1 (G.keeps up) (Bn.keeps up) hbb (hlim.keeps up) at1 (by show A.depth + 1 < recursionLimit; exact hroom) fun h2 tk2 t1 k2 e2 => ?_
  refine ⟨rfl, hq h2 tk2 (h0.objs.size + 1) t1 (fun b o e => k2 b o (Nat.ne_of_lt (Nat.lt_succ_of_lt (Heap.lt_size e))) (up b o e)) (Nat.le_succ _) e2⟩
end
open L2 in
/-- what the top has of an own error without arguments -/
structure NilX (prog : Program) (K : Frag) (mg : Str → Option Value) (x : Str) (C : Addr) : Prop where
  gC : mg x = some (.ref C)
  kC : keepIn K (.ref C) = true
  exC : subIn K (.ref C) (.type "BaseException") = some true
  tyC : typeIn K (.ref C) = some (.type "type")
  sd : ∃ D fI, SupDef prog K fI D ∧ NilC K C D fI
open L2 in
def tNil0 (C : Addr) : L2.St → Hp → XK → Prop := fun _ H Q => Q (.ref C) none H
open L2 in
theorem pmk_nil {X : Cx} {x : Str} {C : Addr} {k : Nat} {p pos : Pos} (T : NilX X.prog X.K X.mg x C) (hr : Room k X.A) (hg : Gl X x) (hd : (x == ("__debug__" : Str)) = false := by decide) : PMk X (.Call (.Name x p) [] [] pos) (tNil0 C) := by
  obtain ⟨D, fI, S, N⟩ := T.sd
  intro pins s σ H Q I h
  refine wpAny_Call_Name_kw (ld_glob I hg T.gC ?_ hd)
  refine callWith_K0 I.kIn T.kC ?_
  show wpAny _ _ (call (.ref C) []) _ _ _
  obtain ⟨mb, b1, b2⟩ := I.mod.blt
  refine wpAny_call (nil_made S N I.kIn (I.mod.glob.keeps I.bk) (b1.keeps I.bk) b2 I.nolimit (by have := hr.dp; omega) fun h' tk e t1 kk le he => ?_)
  have nw : s.heap.get? e = none := Heap.get?_none_of_le le
  exact ⟨e, _, _, s, H, .ref C, none, rfl, I, kk, nw, he, ⟨rfl, rfl⟩, rfl, rfl, I.hok.fresh le, rfl, I.bare, raises_own T.exC T.tyC, h⟩
end Hd
set_option maxHeartbeats 4000000
/-! Steps of heaps, plans that can be made: numbers alone. -/
namespace Hd
open PySem PySem.Spec PyProof.Rows L2
def can (ns : List Int) (i j : Nat) : Bool := decide (0 < ns.getD j 0) && decide (ns.getD j 0 ≤ ns.getD i 0)
def shf (ns : List Int) (i j : Nat) (m : Int) : List Int := (ns.set i (ns.getD i 0 - m)).set j (ns.getD j 0 + m)
def mv (ns : List Int) (i j : Nat) : List Int := shf ns i j (ns.getD j 0)
theorem can_iff {ns : List Int} {i j : Nat} : can ns i j = true ↔ 0 < ns.getD j 0 ∧ ns.getD j 0 ≤ ns.getD i 0 := by
  unfold can
  simp only [Bool.and_eq_true, decide_eq_true_eq]
theorem len_mv (ns : List Int) (i j : Nat) : (mv ns i j).length = ns.length := by
  unfold mv shf
  rw [List.length_set, List.length_set]
theorem getD_set {ns : List Int} {i k : Nat} {v : Int} : (ns.set i v).getD k 0 = if k = i ∧ i < ns.length then v else ns.getD k 0 := by
  rw [List.getD_eq_getElem?_getD, List.getElem?_set, List.getD_eq_getElem?_getD]
  by_cases h : i = k
  · subst h
    rw [if_pos rfl]
    by_cases h2 : i < ns.length
    · rw [if_pos h2, if_pos ⟨rfl, h2⟩]
      rfl
    · rw [if_neg h2, if_neg fun z => h2 z.2, List.getElem?_eq_none (by omega)]
  · rw [if_neg h, if_neg fun z => h z.1.symm]
theorem getD_mv {ns : List Int} {i j k : Nat} (hi : i < ns.length) (hj : j < ns.length) (hij : i ≠ j) : (mv ns i j).getD k 0 = if k = j then 2 * ns.getD j 0 else if k = i then ns.getD i 0 - ns.getD j 0 else ns.getD k 0 := by
  unfold mv shf
  rw [getD_set, getD_set, List.length_set]
  by_cases h : k = j
  · rw [if_pos ⟨h, hj⟩, if_pos h]
    omega
  · rw [if_neg fun z => h z.1, if_neg h]
    by_cases h2 : k = i
    · rw [if_pos ⟨h2, hi⟩, if_pos h2]
    · rw [if_neg fun z => h2 z.1, if_neg h2]
/-- nothing below 0 -/
def NN (ns : List Int) : Prop := ∀ k, 0 ≤ ns.getD k 0
theorem nn_of {ns : List Int} (h : ∀ n ∈ ns, 0 ≤ n) : NN ns := fun k => by
  rw [List.getD_eq_getElem?_getD]
  cases e : ns[k]? with
  | none => exact Int.le_refl _
  | some v => exact h v (List.mem_of_getElem? e)
theorem NN.mem {ns : List Int} (h : NN ns) : ∀ n ∈ ns, 0 ≤ n := fun n hn => by
  obtain ⟨k, hk, e⟩ := List.mem_iff_getElem.mp hn
  have := h k
  rw [List.getD_eq_getElem?_getD, List.getElem?_eq_getElem hk] at this
  rw [← e]
  exact this
theorem NN.mv {ns : List Int} {i j : Nat} (h : NN ns) (hi : i < ns.length) (hj : j < ns.length) (hij : i ≠ j) (hc : can ns i j = true) : NN (mv ns i j) := fun k => by
  rw [getD_mv hi hj hij]
  obtain ⟨c1, c2⟩ := can_iff.mp hc
  have := h k
  split
  · omega
  · split <;> omega
theorem sum_set : ∀ (ns : List Int) (i : Nat) (v : Int), i < ns.length → (ns.set i v).sum = ns.sum + v - ns.getD i 0
  | [], i, v, h => absurd h (by simp)
  | x :: r, 0, v, _ => by
    simp only [List.set_cons_zero, List.sum_cons, List.getD_cons_zero]
    omega
  | x :: r, i + 1, v, h => by
    simp only [List.set_cons_succ, List.sum_cons, List.getD_cons_succ]
    rw [sum_set r i v (by simpa using h)]
    omega
theorem sum_mv {ns : List Int} {i j : Nat} (hi : i < ns.length) (hj : j < ns.length) (hij : i ≠ j) : (mv ns i j).sum = ns.sum := by
  unfold Hd.mv shf
  rw [sum_set _ _ _ (by rw [List.length_set]; exact hj), sum_set _ _ _ hi, getD_set, if_neg fun z => hij z.1.symm]
  omega
/-- the whole is at least what lies at unlike places -/
theorem sum_ge : ∀ (ns : List Int), NN ns → 0 ≤ ns.sum
  | [], _ => by simp
  | x :: r, h => by
    have := h 0
    have := sum_ge r fun k => by simpa using h (k + 1)
    simp only [List.sum_cons, List.getD_cons_zero] at *
    omega
theorem sum_del (ns : List Int) (i : Nat) (h : NN ns) (hi : i < ns.length) : (ns.set i 0).sum = ns.sum - ns.getD i 0 ∧ NN (ns.set i 0) := by
  refine ⟨by rw [sum_set _ _ _ hi]; omega, fun k => ?_⟩
  rw [getD_set]
  split
  · exact Int.le_refl _
  · exact h k
theorem sum_one {ns : List Int} {i : Nat} (h : NN ns) : ns.getD i 0 ≤ ns.sum := by
  by_cases hi : i < ns.length
  · obtain ⟨e, n⟩ := sum_del ns i h hi
    have := sum_ge _ n
    omega
  · rw [List.getD_eq_getElem?_getD, List.getElem?_eq_none (by omega)]
    exact sum_ge _ h
theorem sum_three {ns : List Int} {i j k : Nat} (h : NN ns) (hi : i < ns.length) (hj : j < ns.length) (hk : k < ns.length) (hij : i ≠ j) (hik : i ≠ k) (hjk : j ≠ k) : ns.getD i 0 + ns.getD j 0 + ns.getD k 0 ≤ ns.sum := by
  obtain ⟨e1, n1⟩ := sum_del ns i h hi
  obtain ⟨e2, n2⟩ := sum_del (ns.set i 0) j n1 (by rw [List.length_set]; exact hj)
  have e3 := sum_one (i := k) n2
  rw [getD_set, if_neg fun z => hjk z.1.symm, getD_set, if_neg fun z => hik z.1.symm] at e3
  rw [getD_set, if_neg fun z => hij z.1.symm] at e2
  omega
/-- a plan all of whose steps can be made -/
def run : List Int → List (Nat × Nat) → Option (List Int)
  | ns, [] => some ns
  | ns, s :: r => if can ns s.1 s.2 = true then run (mv ns s.1 s.2) r else none
theorem run_app : ∀ (ps : List (Nat × Nat)) (ns : List Int) (qs : List (Nat × Nat)), run ns (ps ++ qs) = (run ns ps).bind fun m => run m qs
  | [], ns, qs => rfl
  | p :: ps, ns, qs => by
    show (if can ns p.1 p.2 = true then run (mv ns p.1 p.2) (ps ++ qs) else none) = (if can ns p.1 p.2 = true then run (mv ns p.1 p.2) ps else none).bind _
    split
    · exact run_app ps _ qs
    · rfl
/-- the steps are of so many heaps -/
def Stp (n : Nat) (ps : List (Nat × Nat)) : Prop := ∀ p ∈ ps, p.1 < n ∧ p.2 < n ∧ p.1 ≠ p.2
theorem Stp.app {n : Nat} {ps qs : List (Nat × Nat)} (a : Stp n ps) (b : Stp n qs) : Stp n (ps ++ qs) := fun p hp => (List.mem_append.mp hp).elim (a p) (b p)
structure Gone (ns : List Int) (ps : List (Nat × Nat)) (m : List Int) : Prop where
  run : run ns ps = some m
  stp : Stp ns.length ps
theorem Gone.nil (ns : List Int) : Gone ns [] ns := ⟨rfl, fun p hp => nomatch hp⟩
theorem run_keeps : ∀ (ps : List (Nat × Nat)) (ns m : List Int), Stp ns.length ps → Hd.run ns ps = some m → m.length = ns.length ∧ m.sum = ns.sum ∧ (NN ns → NN m) ∧ (∀ g : Int, (∀ k, g ∣ ns.getD k 0) → ∀ k, g ∣ m.getD k 0)
  | [], ns, m, _, e => by
    have e' : ns = m := Option.some.inj e
    subst e'
    exact ⟨rfl, rfl, id, fun _ h => h⟩
  | p :: ps, ns, m, st, e => by
    obtain ⟨a, b, c⟩ := st p List.mem_cons_self
    have e' : (if can ns p.1 p.2 = true then Hd.run (Hd.mv ns p.1 p.2) ps else none) = some m := e
    by_cases hc : can ns p.1 p.2 = true
    · rw [if_pos hc] at e'
      obtain ⟨h1, h2, h3, h4⟩ := run_keeps ps (Hd.mv ns p.1 p.2) m (fun q hq => by rw [len_mv]; exact st q (List.mem_cons_of_mem _ hq)) e'
      rw [len_mv] at h1
      rw [sum_mv a b c] at h2
      refine ⟨h1, h2, fun n => h3 (n.mv a b c hc), fun g hg => h4 g fun k => ?_⟩
      rw [getD_mv a b c]
      split
      · exact Int.dvd_trans (hg p.2) (Int.dvd_mul_left _ _)
      · split
        · exact Int.dvd_sub (hg _) (hg _)
        · exact hg k
    · rw [if_neg hc] at e'
      cases e'
theorem Gone.len {ns m : List Int} {ps : List (Nat × Nat)} (h : Gone ns ps m) : m.length = ns.length := (run_keeps ps ns m h.stp h.run).1
theorem Gone.sum {ns m : List Int} {ps : List (Nat × Nat)} (h : Gone ns ps m) : m.sum = ns.sum := (run_keeps ps ns m h.stp h.run).2.1
theorem Gone.nn {ns m : List Int} {ps : List (Nat × Nat)} (h : Gone ns ps m) (n : NN ns) : NN m := (run_keeps ps ns m h.stp h.run).2.2.1 n
theorem Gone.dvd {ns m : List Int} {ps : List (Nat × Nat)} (h : Gone ns ps m) {g : Int} (n : ∀ k, g ∣ ns.getD k 0) : ∀ k, g ∣ m.getD k 0 := (run_keeps ps ns m h.stp h.run).2.2.2 g n
theorem Gone.app {ns m r : List Int} {ps qs : List (Nat × Nat)} (a : Gone ns ps m) (b : Gone m qs r) : Gone ns (ps ++ qs) r := by
  refine ⟨?_, a.stp.app ?_⟩
  · rw [run_app, a.run]
    exact b.run
  · rw [← a.len]
    exact b.stp
theorem Gone.one {ns : List Int} {i j : Nat} (hi : i < ns.length) (hj : j < ns.length) (hij : i ≠ j) (hc : can ns i j = true) : Gone ns [(i, j)] (Hd.mv ns i j) := by
  refine ⟨?_, fun p hp => ?_⟩
  · show (if can ns i j = true then some (Hd.mv ns i j) else none) = _
    rw [if_pos hc]
  · have e : p = (i, j) := by simpa using hp
    subst e
    exact ⟨hi, hj, hij⟩
/-! ### halving -/
/-- the state within halving: q the figures left, r those that are through, e the weight; the heaps ns at lo, mi, hi are m's there -/
structure Hv (ns : List Int) (lo mi hi : Nat) (p q r e : Int) (ps : List (Nat × Nat)) (m : List Int) : Prop where
  go : Gone ns ps m
  pq : p = q * e + r
  r0 : 0 ≤ r
  re : r < e
  q1 : 1 ≤ q
  len : e = 2 ^ ps.length
  lo_ : m.getD lo 0 = e * ns.getD lo 0
  mi_ : m.getD mi 0 = ns.getD mi 0 - r * ns.getD lo 0
  hi_ : m.getD hi 0 = ns.getD hi 0 - (e - 1 - r) * ns.getD lo 0
  un : ∀ k, k ≠ lo → k ≠ mi → k ≠ hi → m.getD k 0 = ns.getD k 0
/-- three heaps, the least first -/
structure Three (ns : List Int) (lo mi hi : Nat) : Prop where
  blo : lo < ns.length
  bmi : mi < ns.length
  bhi : hi < ns.length
  n1 : lo ≠ mi
  n2 : lo ≠ hi
  n3 : mi ≠ hi
  pos : 0 < ns.getD lo 0
  le1 : ns.getD lo 0 ≤ ns.getD mi 0
  le2 : ns.getD mi 0 ≤ ns.getD hi 0
theorem near_ok {a b : Int} (ha : 0 < a) (hab : a ≤ b) : 1 ≤ (2 * b + a - 1) / (2 * a) ∧ -a < 2 * b - 2 * ((2 * b + a - 1) / (2 * a) * a) ∧ 2 * b - 2 * ((2 * b + a - 1) / (2 * a) * a) ≤ a := by
  have h1 := Int.mul_ediv_add_emod (2 * b + a - 1) (2 * a)
  have h2 := Int.emod_nonneg (2 * b + a - 1) (show 2 * a ≠ 0 by omega)
  have h3 := Int.emod_lt_of_pos (2 * b + a - 1) (show 0 < 2 * a by omega)
  have h4 : 1 ≤ (2 * b + a - 1) / (2 * a) := by
    rw [Int.le_ediv_iff_mul_le (by omega)]
    omega
  have h5 : 2 * a * ((2 * b + a - 1) / (2 * a)) = 2 * ((2 * b + a - 1) / (2 * a) * a) := by
    rw [Int.mul_assoc, Int.mul_comm a]
  rw [h5] at h1
  refine ⟨h4, by omega, by omega⟩
theorem Hv.start {ns : List Int} {lo mi hi : Nat} {p : Int} (hp : 1 ≤ p) : Hv ns lo mi hi p p 0 1 [] ns :=
  ⟨.nil _, by omega, by omega, by omega, hp, rfl, by omega, by omega, by omega, fun _ _ _ _ => rfl⟩
theorem Hv.next {ns m : List Int} {lo mi hi : Nat} {p q r e : Int} {ps : List (Nat × Nat)} (T : Three ns lo mi hi) (h : Hv ns lo mi hi p q r e ps m) (hpa : (p - 1) * ns.getD lo 0 ≤ ns.getD mi 0) (hq : 1 < q) (g : Nat) (hg : g = if q % 2 = 1 then mi else hi) :
    Hv ns lo mi hi p (q / 2) (if q % 2 = 1 then r + e else r) (2 * e) (ps ++ [(g, lo)]) (mv m g lo) := by
  have hlen := h.go.len
  have a0 := T.pos
  have e1 : q = 2 * (q / 2) + q % 2 := by omega
  have hq2 : 1 ≤ q / 2 := by omega
  have he : 0 < e := by
    have := h.r0
    have := h.re
    omega
  have pe : 2 * e ≤ (q / 2) * (2 * e) := by
    have := Int.mul_le_mul_of_nonneg_right hq2 (show 0 ≤ 2 * e by omega)
    omega
  have r0 := h.r0
  have re := h.re
  have ea : 0 < e * ns.getD lo 0 := Int.mul_pos he a0
  have d2 : 2 * e * ns.getD lo 0 = 2 * (e * ns.getD lo 0) := Int.mul_assoc _ _ _
  have hlo : lo < m.length := by rw [hlen]; exact T.blo
  by_cases hb : q % 2 = 1
  · rw [if_pos hb] at hg
    subst hg
    rw [if_pos hb]
    have ep : p = (q / 2) * (2 * e) + (r + e) := by
      have : q * e = (q / 2) * (2 * e) + e := by
        rw (occs := [1]) [e1]
        rw [hb, Int.add_mul, Int.one_mul, Int.mul_comm 2, Int.mul_assoc]
      have := h.pq
      omega
    have k1 : (r + e) * ns.getD lo 0 ≤ (p - 1) * ns.getD lo 0 := Int.mul_le_mul_of_nonneg_right (by omega) (by omega)
    have k2 : (r + e) * ns.getD lo 0 = r * ns.getD lo 0 + e * ns.getD lo 0 := Int.add_mul _ _ _
    have k3 : (2 * e - 1 - (r + e)) = e - 1 - r := by omega
    have hmi : g < m.length := by rw [hlen]; exact T.bmi
    have hc : can m g lo = true := can_iff.mpr (by rw [h.lo_, h.mi_]; omega)
    refine ⟨h.go.app (.one hmi hlo (Ne.symm T.n1) hc), ep, by omega, by omega, hq2, ?_, ?_, ?_, ?_, fun k x1 x2 x3 => ?_⟩
    · rw [List.length_append, h.len]
      show 2 * 2 ^ ps.length = 2 ^ (ps.length + 1)
      rw [Int.pow_succ, Int.mul_comm]
    · rw [getD_mv hmi hlo (Ne.symm T.n1), if_pos rfl, h.lo_, d2]
    · rw [getD_mv hmi hlo (Ne.symm T.n1), if_neg (Ne.symm T.n1), if_pos rfl, h.lo_, h.mi_, k2]
      omega
    · rw [getD_mv hmi hlo (Ne.symm T.n1), if_neg (Ne.symm T.n2), if_neg (Ne.symm T.n3), h.hi_, k3]
    · rw [getD_mv hmi hlo (Ne.symm T.n1), if_neg x1, if_neg x2]
      exact h.un k x1 x2 x3
  · rw [if_neg hb] at hg
    subst hg
    rw [if_neg hb]
    have ep : p = (q / 2) * (2 * e) + r := by
      have : q * e = (q / 2) * (2 * e) := by
        rw (occs := [1]) [e1]
        rw [show q % 2 = 0 by omega, Int.add_zero, Int.mul_comm 2, Int.mul_assoc]
      have := h.pq
      omega
    have k1 : (2 * e - 1 - r) * ns.getD lo 0 ≤ (p - 1) * ns.getD lo 0 := Int.mul_le_mul_of_nonneg_right (by omega) (by omega)
    have k2 : (2 * e - 1 - r) * ns.getD lo 0 = (e - 1 - r) * ns.getD lo 0 + e * ns.getD lo 0 := by
      rw [← Int.add_mul]
      congr 1
      omega
    have le2 := T.le2
    have hhi : g < m.length := by rw [hlen]; exact T.bhi
    have hc : can m g lo = true := can_iff.mpr (by rw [h.lo_, h.hi_]; omega)
    refine ⟨h.go.app (.one hhi hlo (Ne.symm T.n2) hc), ep, by omega, by omega, hq2, ?_, ?_, ?_, ?_, fun k x1 x2 x3 => ?_⟩
    · rw [List.length_append, h.len]
      show 2 * 2 ^ ps.length = 2 ^ (ps.length + 1)
      rw [Int.pow_succ, Int.mul_comm]
    · rw [getD_mv hhi hlo (Ne.symm T.n2), if_pos rfl, h.lo_, d2]
    · rw [getD_mv hhi hlo (Ne.symm T.n2), if_neg (Ne.symm T.n1), if_neg T.n3, h.mi_]
    · rw [getD_mv hhi hlo (Ne.symm T.n2), if_neg (Ne.symm T.n2), if_pos rfl, h.lo_, h.hi_, k2]
      omega
    · rw [getD_mv hhi hlo (Ne.symm T.n2), if_neg x1, if_neg x3]
      exact h.un k x1 x2 x3
/-- what halving is for: at one of the three places at most half of the least, elsewhere nothing new; so many steps that 2 to their number is at most the whole -/
structure Halved (ns : List Int) (lo mi hi : Nat) (ps : List (Nat × Nat)) (m : List Int) : Prop where
  go : Gone ns ps m
  half : ∃ k, (k = lo ∨ k = mi ∨ k = hi) ∧ 2 * m.getD k 0 ≤ ns.getD lo 0
  un : ∀ k, k ≠ lo → k ≠ mi → k ≠ hi → m.getD k 0 = ns.getD k 0
  len : (2 : Int) ^ ps.length ≤ ns.sum
theorem Hv.end {ns m : List Int} {lo mi hi : Nat} {p r e : Int} {ps : List (Nat × Nat)} (N : NN ns) (T : Three ns lo mi hi) (h : Hv ns lo mi hi p 1 r e ps m) (n1 : -ns.getD lo 0 < 2 * ns.getD mi 0 - 2 * (p * ns.getD lo 0)) (n2 : 2 * ns.getD mi 0 - 2 * (p * ns.getD lo 0) ≤ ns.getD lo 0) :
    Halved ns lo mi hi (ps ++ [if p * ns.getD lo 0 > ns.getD mi 0 then (lo, mi) else (mi, lo)]) (if p * ns.getD lo 0 > ns.getD mi 0 then mv m lo mi else mv m mi lo) := by
  have hlen := h.go.len
  have a0 := T.pos
  have r0 := h.r0
  have re := h.re
  have he : 0 < e := by omega
  have hlo : lo < m.length := by rw [hlen]; exact T.blo
  have hmi : mi < m.length := by rw [hlen]; exact T.bmi
  have ep : p = e + r := by
    have := h.pq
    omega
  have k1 : p * ns.getD lo 0 = e * ns.getD lo 0 + r * ns.getD lo 0 := by rw [ep, Int.add_mul]
  have k2 : 1 * ns.getD lo 0 ≤ e * ns.getD lo 0 := Int.mul_le_mul_of_nonneg_right (by omega) (by omega)
  have s3 := sum_three N T.blo T.bmi T.bhi T.n1 T.n2 T.n3
  have le2 := T.le2
  have elen : (2 : Int) ^ (ps.length + 1) ≤ ns.sum := by
    have q1 : (2 : Int) ^ (ps.length + 1) = 2 * e := by rw [Int.pow_succ, ← h.len, Int.mul_comm]
    have q2 : p * 1 ≤ p * ns.getD lo 0 := Int.mul_le_mul_of_nonneg_left (by omega) (by omega)
    omega
  by_cases hs : p * ns.getD lo 0 > ns.getD mi 0
  · rw [if_pos hs, if_pos hs]
    have hc : can m lo mi = true := can_iff.mpr (by rw [h.lo_, h.mi_]; omega)
    refine ⟨h.go.app (.one hlo hmi T.n1 hc), ⟨lo, .inl rfl, ?_⟩, fun k x1 x2 x3 => ?_, by rw [List.length_append]; exact elen⟩
    · rw [getD_mv hlo hmi T.n1, if_neg T.n1, if_pos rfl, h.lo_, h.mi_]
      omega
    · rw [getD_mv hlo hmi T.n1, if_neg x2, if_neg x1]
      exact h.un k x1 x2 x3
  · rw [if_neg hs, if_neg hs]
    have hc : can m mi lo = true := can_iff.mpr (by rw [h.lo_, h.mi_]; omega)
    refine ⟨h.go.app (.one hmi hlo (Ne.symm T.n1) hc), ⟨mi, .inr (.inl rfl), ?_⟩, fun k x1 x2 x3 => ?_, by rw [List.length_append]; exact elen⟩
    · rw [getD_mv hmi hlo (Ne.symm T.n1), if_neg (Ne.symm T.n1), if_pos rfl, h.lo_, h.mi_]
      omega
    · rw [getD_mv hmi hlo (Ne.symm T.n1), if_neg x1, if_neg x2]
      exact h.un k x1 x2 x3
end Hd
set_option maxHeartbeats 4000000
/-! Emptying one of three, all but two, all but one: numbers alone. -/
namespace Hd
open PySem PySem.Spec PyProof.Rows L2
/-! ### the heaps that are not empty -/
def fil (ns : List Int) : List Nat := (List.range ns.length).filter fun k => decide (0 < ns.getD k 0)
theorem mem_fil {ns : List Int} {k : Nat} : k ∈ fil ns ↔ k < ns.length ∧ 0 < ns.getD k 0 := by
  unfold fil
  rw [List.mem_filter, List.mem_range, decide_eq_true_eq]
theorem fil_sorted (ns : List Int) : (fil ns).Pairwise (· < ·) := List.Pairwise.filter _ List.pairwise_lt_range
theorem fil_le (ns : List Int) : (fil ns).length ≤ ns.length := Nat.le_trans (List.length_filter_le _ _) (by rw [List.length_range]; exact Nat.le_refl _)
theorem filter_lt {α : Type} {p q : α → Bool} : ∀ {l : List α}, (∀ x ∈ l, q x = true → p x = true) → (∃ x ∈ l, p x = true ∧ q x = false) → (l.filter q).length < (l.filter p).length
  | [], _, h => by
    obtain ⟨x, hx, _⟩ := h
    cases hx
  | x :: l, h1, h2 => by
    have ih : (l.filter q).length ≤ (l.filter p).length := by
      rw [← List.countP_eq_length_filter, ← List.countP_eq_length_filter]
      exact List.countP_mono_left fun y hy => h1 y (List.mem_cons_of_mem _ hy)
    rw [List.filter_cons, List.filter_cons]
    obtain ⟨y, hy, y1, y2⟩ := h2
    rcases List.mem_cons.mp hy with e | hy
    · subst e
      rw [y1, y2, if_pos rfl, if_neg (by decide)]
      exact Nat.lt_succ_of_le ih
    · have := filter_lt (l := l) (fun z hz => h1 z (List.mem_cons_of_mem _ hz)) ⟨y, hy, y1, y2⟩
      by_cases hq : q x = true
      · rw [if_pos hq, if_pos (h1 x List.mem_cons_self hq)]
        exact Nat.succ_lt_succ this
      · rw [if_neg hq]
        split
        · exact Nat.lt_succ_of_lt this
        · exact this
theorem fil_lt {ns m : List Int} (hl : m.length = ns.length) (h1 : ∀ k, 0 < m.getD k 0 → 0 < ns.getD k 0) (h2 : ∃ k, k < ns.length ∧ 0 < ns.getD k 0 ∧ m.getD k 0 ≤ 0) : (fil m).length < (fil ns).length := by
  unfold fil
  rw [hl]
  refine filter_lt (fun k _ h => decide_eq_true (h1 k (of_decide_eq_true h))) ?_
  obtain ⟨k, a, b, c⟩ := h2
  exact ⟨k, List.mem_range.mpr a, decide_eq_true b, decide_eq_false (by omega)⟩
theorem sum_zero : ∀ ns : List Int, (∀ k, ns.getD k 0 = 0) → ns.sum = 0
  | [], _ => rfl
  | x :: r, h => by
    have h0 := h 0
    have hr := sum_zero r fun k => by simpa using h (k + 1)
    simp only [List.getD_cons_zero] at h0
    simp only [List.sum_cons]
    omega
theorem sum_two {ns : List Int} {i j : Nat} (hi : i < ns.length) (hj : j < ns.length) (hij : i ≠ j) (h : ∀ k, k ≠ i → k ≠ j → ns.getD k 0 = 0) : ns.sum = ns.getD i 0 + ns.getD j 0 := by
  have e1 := sum_set ns i 0 hi
  have e2 := sum_set (ns.set i 0) j 0 (by rw [List.length_set]; exact hj)
  rw [getD_set, if_neg fun z => hij z.1.symm] at e2
  have e3 := sum_zero ((ns.set i 0).set j 0) fun k => by
    rw [getD_set, getD_set, List.length_set]
    by_cases a : k = j
    · rw [if_pos ⟨a, hj⟩]
    · rw [if_neg fun z => a z.1]
      by_cases b : k = i
      · rw [if_pos ⟨b, hi⟩]
      · rw [if_neg fun z => b z.1]
        exact h k b a
  omega
/-! ### one of three -/
/-- k is one of the three -/
def In3 (x y z k : Nat) : Prop := k = x ∨ k = y ∨ k = z
structure Trio (ns : List Int) (x y z : Nat) : Prop where
  bx : x < ns.length
  by_ : y < ns.length
  bz : z < ns.length
  n1 : x ≠ y
  n2 : x ≠ z
  n3 : y ≠ z
/-- so far within emptying: t halvings are done -/
structure Em (ns : List Int) (x y z : Nat) (F t : Nat) (ps : List (Nat × Nat)) (m : List Int) : Prop where
  go : Gone ns ps m
  le : ∃ k, In3 x y z k ∧ 2 ^ t * m.getD k 0 ≤ ns.sum
  un : ∀ k, ¬ In3 x y z k → m.getD k 0 = ns.getD k 0
  len : ps.length ≤ t * F
  tF : t ≤ F
theorem Em.start {ns : List Int} {x y z F : Nat} (N : NN ns) : Em ns x y z F 0 [] ns :=
  ⟨.nil _, ⟨x, .inl rfl, by have := sum_one (i := x) N; simpa using this⟩, fun _ _ => rfl, Nat.zero_le _, Nat.zero_le _⟩
theorem two_le {k F : Nat} {S : Int} (h : (2 : Int) ^ k ≤ S) (hS : S < 2 ^ F) : k < F := by
  by_cases c : k < F
  · exact c
  · have : (2 : Int) ^ F ≤ 2 ^ k := by
      have := Nat.pow_le_pow_right (show 0 < 2 by decide) (show F ≤ k by omega)
      have e : ∀ n : Nat, (2 : Int) ^ n = ((2 ^ n : Nat) : Int) := fun n => by simp
      rw [e, e]
      exact Int.ofNat_le.mpr this
    omega
/-- one halving more: the places in the order lo, mi, hi -/
theorem Em.next {ns m r : List Int} {x y z F t lo mi hi : Nat} {ps qs : List (Nat × Nat)} (h : Em ns x y z F t ps m) (hF : ns.sum < 2 ^ F) (hpos : ∀ k, In3 x y z k → 0 < m.getD k 0) (hin : ∀ k, In3 x y z k ↔ In3 lo mi hi k)
    (hlo : ∀ k, In3 x y z k → m.getD lo 0 ≤ m.getD k 0) (hv : Halved m lo mi hi qs r) : t < F ∧ Em ns x y z F (t + 1) (ps ++ qs) r := by
  obtain ⟨k, k1, k2⟩ := h.le
  have p2 : (0 : Int) < 2 ^ t := Int.pow_pos (by decide)
  have t1 : (2 : Int) ^ t * 1 ≤ 2 ^ t * m.getD k 0 := Int.mul_le_mul_of_nonneg_left (by have := hpos k k1; omega) (by omega)
  have ht : t < F := two_le (by omega) hF
  refine ⟨ht, h.go.app hv.go, ?_, fun j hj => ?_, ?_, ht⟩
  · obtain ⟨j, j1, j2⟩ := hv.half
    refine ⟨j, (hin j).mpr j1, ?_⟩
    have a1 : (2 : Int) ^ (t + 1) * r.getD j 0 = 2 ^ t * (2 * r.getD j 0) := by rw [Int.pow_succ, Int.mul_assoc]
    have a2 : (2 : Int) ^ t * (2 * r.getD j 0) ≤ 2 ^ t * m.getD k 0 := Int.mul_le_mul_of_nonneg_left (by have := hlo k k1; omega) (by omega)
    omega
  · rw [hv.un j (fun e => hj ((hin j).mpr (.inl e))) (fun e => hj ((hin j).mpr (.inr (.inl e)))) (fun e => hj ((hin j).mpr (.inr (.inr e))))]
    exact h.un j hj
  · have hl := hv.len
    rw [h.go.sum] at hl
    have := two_le hl hF
    rw [List.length_append, Nat.add_mul]
    have := h.len
    omega
/-- what emptying is for -/
structure Emptied (ns : List Int) (F : Nat) (ps : List (Nat × Nat)) (m : List Int) : Prop where
  go : Gone ns ps m
  fewer : (fil m).length < (fil ns).length
  zero : ∃ k, k < ns.length ∧ m.getD k 0 = 0
  len : ps.length ≤ F * F
theorem Em.end {ns m : List Int} {x y z F t : Nat} {ps : List (Nat × Nat)} (N : NN ns) (T : Trio ns x y z) (hpos : ∀ k, In3 x y z k → 0 < ns.getD k 0) (h : Em ns x y z F t ps m) (k : Nat) (hk : In3 x y z k) (hz : m.getD k 0 ≤ 0) : Emptied ns F ps m := by
  have hkl : k < ns.length := by
    rcases hk with e | e | e <;> subst e
    · exact T.bx
    · exact T.by_
    · exact T.bz
  refine ⟨h.go, fil_lt h.go.len (fun j hj => ?_) ⟨k, hkl, hpos k hk, hz⟩, ⟨k, hkl, ?_⟩, Nat.le_trans h.len (Nat.mul_le_mul_right F h.tF)⟩
  · by_cases c : In3 x y z j
    · exact hpos j c
    · rw [← h.un j c]
      exact hj
  · have := h.go.nn N k
    omega
/-! ### all but two -/
structure Pr (ns : List Int) (F : Nat) (ps : List (Nat × Nat)) (m : List Int) : Prop where
  go : Gone ns ps m
  len : ps.length + (fil m).length * (F * F) ≤ (fil ns).length * (F * F)
theorem Pr.start (ns : List Int) (F : Nat) : Pr ns F [] ns := ⟨.nil _, by simp⟩
theorem Pr.next {ns m r : List Int} {F : Nat} {ps qs : List (Nat × Nat)} (h : Pr ns F ps m) (e : Emptied m F qs r) : Pr ns F (ps ++ qs) r ∧ (fil r).length < (fil m).length := by
  refine ⟨⟨h.go.app e.go, ?_⟩, e.fewer⟩
  have a := Nat.mul_le_mul_right (F * F) (show (fil r).length + 1 ≤ (fil m).length from e.fewer)
  rw [Nat.add_mul, Nat.one_mul] at a
  rw [List.length_append]
  have := h.len
  have := e.len
  omega
/-! ### all but one -/
theorem pow_dvd_le {a b : Nat} (h : a ≤ b) (g : Int) : g * 2 ^ a ∣ g * 2 ^ b := by
  refine Int.mul_dvd_mul_left g ?_
  rw [← Nat.add_sub_cancel' h, Int.pow_add]
  exact Int.dvd_mul_right _ _
/-- so far within the walk of the two: m is where it stands behind t steps; g times 2 to the T is the whole -/
structure Wk (ns : List Int) (g : Int) (T t : Nat) (ps : List (Nat × Nat)) (m : List Int) : Prop where
  go : Gone ns ps m
  len : ps.length = t
  dv : ∀ k, g * 2 ^ t ∣ m.getD k 0
  two : (fil m).length ≤ 2
  tT : t ≤ T
theorem Wk.start {ns : List Int} {g : Int} {T : Nat} (hg : ∀ k, g ∣ ns.getD k 0) (h2 : (fil ns).length ≤ 2) : Wk ns g T 0 [] ns :=
  ⟨.nil _, rfl, fun k => by simpa using hg k, h2, Nat.zero_le _⟩
theorem Wk.pair {ns m : List Int} {g : Int} {T t : Nat} {ps : List (Nat × Nat)} (N : NN ns) (h : Wk ns g T t ps m) (h1 : 1 < (fil m).length) : ∃ i j, fil m = [i, j] ∧ i < m.length ∧ j < m.length ∧ i ≠ j ∧ 0 < m.getD i 0 ∧ 0 < m.getD j 0 ∧ m.getD i 0 + m.getD j 0 = ns.sum ∧ (∀ k, k ≠ i → k ≠ j → m.getD k 0 = 0) := by
  have h2 := h.two
  have hs := fil_sorted m
  match e : fil m, h1, h2 with
  | [i, j], _, _ =>
    have mi := (mem_fil (ns := m) (k := i)).mp (by rw [e]; simp)
    have mj := (mem_fil (ns := m) (k := j)).mp (by rw [e]; simp)
    have hij : i ≠ j := by
      rw [e] at hs
      have := (List.pairwise_cons.mp hs).1 j (by simp)
      omega
    have z : ∀ k, k ≠ i → k ≠ j → m.getD k 0 = 0 := fun k a b => by
      have n := h.go.nn N k
      by_cases hk : 0 < m.getD k 0
      · have hkl : k < m.length := by
          by_cases c : k < m.length
          · exact c
          · rw [List.getD_eq_getElem?_getD, List.getElem?_eq_none (by omega)] at hk
            exact absurd hk (by decide)
        have := (mem_fil (ns := m) (k := k)).mpr ⟨hkl, hk⟩
        rw [e] at this
        simp [a, b] at this
      · omega
    refine ⟨i, j, rfl, mi.1, mj.1, hij, mi.2, mj.2, ?_, z⟩
    rw [← sum_two mi.1 mj.1 hij z]
    exact h.go.sum
theorem Wk.next {ns m : List Int} {g : Int} {T t i j : Nat} {ps : List (Nat × Nat)} (h : Wk ns g T t ps m) (g0 : 0 < g) (hS : ns.sum = g * 2 ^ T) (hi : i < m.length) (hj : j < m.length) (hij : i ≠ j) (pj : 0 < m.getD j 0) (hle : m.getD j 0 ≤ m.getD i 0)
    (hs : m.getD i 0 + m.getD j 0 = ns.sum) (hz : ∀ k, k ≠ i → k ≠ j → m.getD k 0 = 0) : t < T ∧ can m i j = true ∧ Wk ns g T (t + 1) (ps ++ [(i, j)]) (mv m i j) := by
  have hc : can m i j = true := can_iff.mpr ⟨pj, hle⟩
  have p2 : (0 : Int) < 2 ^ t := Int.pow_pos (by decide)
  have l1 : g * 2 ^ t ≤ m.getD j 0 := Int.le_of_dvd pj (h.dv j)
  have tT : t < T := by
    by_cases c : t < T
    · exact c
    · have e : t = T := Nat.le_antisymm h.tT (by omega)
      rw [← e] at hS
      omega
  have d1 : g * 2 ^ (t + 1) ∣ ns.sum := by
    rw [hS]
    exact pow_dvd_le tT g
  have d2 : g * 2 ^ (t + 1) ∣ 2 * m.getD j 0 := by
    obtain ⟨c, hc⟩ := h.dv j
    refine ⟨c, ?_⟩
    rw [hc, Int.pow_succ, Int.mul_left_comm 2, Int.mul_assoc g, Int.mul_assoc g, Int.mul_assoc]
  refine ⟨tT, hc, h.go.app (.one hi hj hij hc), by rw [List.length_append, h.len]; rfl, fun k => ?_, ?_, tT⟩
  · rw [getD_mv hi hj hij]
    by_cases a : k = j
    · rw [if_pos a]
      exact d2
    · rw [if_neg a]
      by_cases b : k = i
      · rw [if_pos b, show m.getD i 0 - m.getD j 0 = ns.sum - 2 * m.getD j 0 by omega]
        exact Int.dvd_sub d1 d2
      · rw [if_neg b, hz k b a]
        exact Int.dvd_zero _
  · refine Nat.le_trans ?_ (h.two)
    unfold fil
    rw [len_mv, ← List.countP_eq_length_filter, ← List.countP_eq_length_filter]
    refine List.countP_mono_left fun k _ hk => ?_
    have hk' := of_decide_eq_true hk
    rw [getD_mv hi hj hij] at hk'
    by_cases a : k = j
    · subst a
      exact decide_eq_true pj
    · rw [if_neg a] at hk'
      by_cases b : k = i
      · subst b
        exact decide_eq_true (by omega)
      · rw [if_neg b] at hk'
        exact decide_eq_true hk'
/-- one step further along a plan that can be made -/
theorem run_take {ns m a : List Int} {ps : List (Nat × Nat)} {i : Nat} (h : run ns ps = some m) (hi : i < ps.length) (ha : run ns (ps.take i) = some a) : can a ps[i].1 ps[i].2 = true ∧ run ns (ps.take (i + 1)) = some (mv a ps[i].1 ps[i].2) := by
  have e : ps = ps.take i ++ (ps[i] :: ps.drop (i + 1)) := by rw [← List.drop_eq_getElem_cons hi, List.take_append_drop]
  have h2 : run ns (ps.take i ++ (ps[i] :: ps.drop (i + 1))) = some m := by rw [← e]; exact h
  rw [run_app, ha] at h2
  have h3 : (if can a ps[i].1 ps[i].2 = true then run (mv a ps[i].1 ps[i].2) (ps.drop (i + 1)) else none) = some m := h2
  have hc : can a ps[i].1 ps[i].2 = true := by
    by_cases c : can a ps[i].1 ps[i].2 = true
    · exact c
    · rw [if_neg c] at h3
      cases h3
  refine ⟨hc, ?_⟩
  rw [List.take_add_one, List.getElem?_eq_getElem hi]
  show run ns (ps.take i ++ [ps[i]]) = _
  rw [run_app, ha]
  show (if can a ps[i].1 ps[i].2 = true then some (mv a ps[i].1 ps[i].2) else none) = _
  rw [if_pos hc]
theorem run_len : ∀ (ps : List (Nat × Nat)) (ns m : List Int), run ns ps = some m → m.length = ns.length
  | [], ns, m, e => by
    have e' : ns = m := Option.some.inj e
    rw [e']
  | p :: ps, ns, m, e => by
    have e' : (if can ns p.1 p.2 = true then run (mv ns p.1 p.2) ps else none) = some m := e
    split at e'
    · rw [run_len ps _ m e', len_mv]
    · cases e'
end Hd
set_option maxHeartbeats 4000000
/-! All pairs of places, in order; data that stands in the heap. -/
namespace Hd
open PySem PySem.Spec PyProof.Rows L2
def row (n i : Nat) : List (Nat × Nat) := ((List.range n).filter fun j => decide (j ≠ i)).map fun j => (i, j)
def rowTo (i j : Nat) : List (Nat × Nat) := ((List.range j).filter fun j => decide (j ≠ i)).map fun j => (i, j)
def prsTo (n i : Nat) : List (Nat × Nat) := (List.range i).flatMap (row n)
def prs (n : Nat) : List (Nat × Nat) := prsTo n n
theorem prsTo_succ (n i : Nat) : prsTo n (i + 1) = prsTo n i ++ row n i := by
  unfold prsTo
  rw [List.range_succ, List.flatMap_append]
  simp
theorem rowTo_succ (i j : Nat) : rowTo i (j + 1) = rowTo i j ++ (if j = i then [] else [(i, j)]) := by
  unfold rowTo
  rw [List.range_succ, List.filter_append, List.map_append]
  by_cases h : j = i
  · subst h
    simp
  · simp [h]
theorem prs_len {n : Nat} (h2 : n ≤ 6) : (prs n).length = n * (n - 1) := by
  have : n = 0 ∨ n = 1 ∨ n = 2 ∨ n = 3 ∨ n = 4 ∨ n = 5 ∨ n = 6 := by omega
  rcases this with e | e | e | e | e | e | e <;> subst e <;> decide
theorem prsTo_short {n : Nat} (h2 : n ≤ 6) : ∀ i, i ≤ n → (prsTo n i).length ≤ 36 := by
  have : n = 0 ∨ n = 1 ∨ n = 2 ∨ n = 3 ∨ n = 4 ∨ n = 5 ∨ n = 6 := by omega
  rcases this with e | e | e | e | e | e | e <;> subst e <;> decide
theorem prs_short {n : Nat} (h2 : n ≤ 6) : (prs n).length ≤ 36 := prsTo_short h2 n (Nat.le_refl n)
theorem mem_row {n i : Nat} {p : Nat × Nat} : p ∈ row n i ↔ p.1 = i ∧ p.2 < n ∧ p.2 ≠ i := by
  unfold row
  rw [List.mem_map]
  constructor
  · rintro ⟨j, hj, rfl⟩
    obtain ⟨h1, h2⟩ := List.mem_filter.mp hj
    exact ⟨rfl, List.mem_range.mp h1, by simpa using h2⟩
  · rintro ⟨rfl, h1, h2⟩
    exact ⟨p.2, List.mem_filter.mpr ⟨List.mem_range.mpr h1, by simpa using h2⟩, rfl⟩
theorem mem_prs {n : Nat} {p : Nat × Nat} : p ∈ prs n ↔ p.1 < n ∧ p.2 < n ∧ p.1 ≠ p.2 := by
  unfold prs prsTo
  rw [List.mem_flatMap]
  constructor
  · rintro ⟨i, hi, hp⟩
    obtain ⟨h1, h2, h3⟩ := mem_row.mp hp
    exact ⟨by rw [h1]; exact List.mem_range.mp hi, h2, by rw [h1]; exact fun z => h3 z.symm⟩
  · rintro ⟨h1, h2, h3⟩
    exact ⟨p.1, List.mem_range.mpr h1, mem_row.mpr ⟨rfl, h2, fun z => h3 z.symm⟩⟩
/-- the steps that can be made, in order -/
def due (ns : List Int) : List (Nat × Nat) := (prs ns.length).filter fun q => can ns q.1 q.2
theorem mem_due {ns : List Int} {p : Nat × Nat} : p ∈ due ns ↔ p.1 < ns.length ∧ p.2 < ns.length ∧ p.1 ≠ p.2 ∧ can ns p.1 p.2 = true := by
  unfold due
  rw [List.mem_filter, mem_prs]
  constructor
  · rintro ⟨⟨a, b, c⟩, d⟩
    exact ⟨a, b, c, d⟩
  · rintro ⟨a, b, c, d⟩
    exact ⟨⟨a, b, c⟩, d⟩
theorem filter_take {α : Type} {p : α → Bool} {l : List α} {i : Nat} {z : α} (h : l[i]? = some z) : (l.take (i + 1)).filter p = (l.take i).filter p ++ (if p z = true then [z] else []) := by
  rw [List.take_add_one, h, List.filter_append]
  congr 1
  simp only [Option.toList, List.filter_cons, List.filter_nil]
theorem map_take {α β : Type} {f : α → β} {l : List α} {i : Nat} {z : α} (h : l[i]? = some z) : (l.take (i + 1)).map f = (l.take i).map f ++ [f z] := by
  rw [List.take_add_one, h, List.map_append]
  rfl
/-! ### data -/
theorem shaped_mk {d : PyData} (h1 : d.canLay0 = true) (h2 : d.depth ≤ 64) : SeqAt.shaped d = true := by
  unfold SeqAt.shaped
  rw [h1, decide_eq_true h2]
  rfl
theorem lay_all {α : Type} (f : α → PyData) (h : ∀ x, (f x).canLay0 = true) : ∀ xs : List α, PyData.canLayAll0 (xs.map f) = true
  | [] => by simp [PyData.canLayAll0]
  | x :: xs => by simp [PyData.canLayAll0, h, lay_all f h xs]
theorem deep_all {α : Type} (f : α → PyData) (n : Nat) (h : ∀ x, (f x).depth ≤ n) : ∀ xs : List α, PyData.depthAll (xs.map f) ≤ n
  | [] => by simp [PyData.depthAll]
  | x :: xs => by
    have h1 := h x
    have h2 := deep_all f n h xs
    simp only [List.map_cons, PyData.depthAll]
    omega
theorem all_self {α : Type} (f : α → PyData) (h : ∀ x, PyData.eqv (f x) (f x) = true) : ∀ xs : List α, PyData.eqvAll (xs.map f) (xs.map f) = true
  | [] => by simp [PyData.eqvAll]
  | x :: xs => by
    simp only [List.map_cons, PyData.eqvAll, h, all_self f h xs, Bool.and_true]
theorem all_eqv {α : Type} (f : α → PyData) (e : α → α → Bool) (h : ∀ x y, PyData.eqv (f x) (f y) = e x y) (he : ∀ x y, e x y = true ↔ x = y) : ∀ xs ys : List α, PyData.eqvAll (xs.map f) (ys.map f) = true ↔ xs = ys
  | [], [] => by simp [PyData.eqvAll]
  | [], y :: ys => by simp [PyData.eqvAll]
  | x :: xs, [] => by simp [PyData.eqvAll]
  | x :: xs, y :: ys => by
    simp only [List.map_cons, PyData.eqvAll, h, Bool.and_eq_true, he, all_eqv f e h he xs ys, List.cons.injEq]
/-- a tuple of ints -/
def dI (ns : List Int) : PyData := .tuple (ns.map .int)
/-- a step -/
def dS (p : Nat × Nat) : PyData := .tuple [.int (p.1 : Int), .int (p.2 : Int)]
/-- a tuple of steps -/
def dP (ps : List (Nat × Nat)) : PyData := .tuple (ps.map dS)
theorem eqv_int (x y : Int) : PyData.eqv (.int x) (.int y) = (x == y) := by simp only [PyData.eqv]
theorem dI_eqv (xs ys : List Int) : PyData.eqv (dI xs) (dI ys) = decide (xs = ys) := by
  have h := all_eqv PyData.int (fun x y => x == y) eqv_int (fun x y => beq_iff_eq) xs ys
  unfold dI
  simp only [PyData.eqv]
  by_cases e : xs = ys
  · rw [h.mpr e, decide_eq_true e]
  · rw [decide_eq_false e]
    exact Bool.eq_false_iff.mpr fun z => e (h.mp z)
theorem dS_eqv (p q : Nat × Nat) : PyData.eqv (dS p) (dS q) = decide (p = q) := by
  obtain ⟨a, b⟩ := p
  obtain ⟨c, d⟩ := q
  have e : PyData.eqv (dS (a, b)) (dS (c, d)) = (decide (a = c) && decide (b = d)) := by
    simp only [dS, PyData.eqv, PyData.eqvAll]
    by_cases h1 : a = c <;> by_cases h2 : b = d <;> simp [h1, h2] <;> omega
  rw [e]
  by_cases h1 : a = c <;> by_cases h2 : b = d <;> simp [h1, h2]
theorem steps_eqv (xs ys : List (Nat × Nat)) : PyData.eqvAll (xs.map dS) (ys.map dS) = decide (xs = ys) := by
  have h := all_eqv dS (fun x y => decide (x = y)) dS_eqv (fun x y => by simp) xs ys
  by_cases e : xs = ys
  · rw [h.mpr e, decide_eq_true e]
  · rw [decide_eq_false e]
    exact Bool.eq_false_iff.mpr fun z => e (h.mp z)
theorem dP_eqv (xs ys : List (Nat × Nat)) : PyData.eqv (dP xs) (dP ys) = decide (xs = ys) := by
  unfold dP
  simp only [PyData.eqv]
  exact steps_eqv xs ys
theorem dI_lay (ns : List Int) : (dI ns).canLay0 = true := by
  have := lay_all PyData.int (fun x => by simp [PyData.canLay0]) ns
  simp [dI, PyData.canLay0, this]
theorem dI_deep (ns : List Int) : (dI ns).depth ≤ 1 := by
  have := deep_all PyData.int 0 (fun x => by simp [PyData.depth]) ns
  simp [dI, PyData.depth]
  omega
theorem dS_lay (p : Nat × Nat) : (dS p).canLay0 = true := by simp [dS, PyData.canLay0, PyData.canLayAll0]
theorem dS_deep (p : Nat × Nat) : (dS p).depth ≤ 1 := by simp [dS, PyData.depth, PyData.depthAll]
theorem dP_lay (ps : List (Nat × Nat)) : (dP ps).canLay0 = true := by
  have := lay_all dS dS_lay ps
  simp [dP, PyData.canLay0, this]
theorem dP_deep (ps : List (Nat × Nat)) : (dP ps).depth ≤ 2 := by
  have := deep_all dS 1 dS_deep ps
  simp [dP, PyData.depth]
  omega
theorem dI_ok (ns : List Int) : SeqAt.shaped (dI ns) = true := shaped_mk (dI_lay ns) (Nat.le_trans (dI_deep ns) (by decide))
theorem dS_ok (p : Nat × Nat) : SeqAt.shaped (dS p) = true := shaped_mk (dS_lay p) (Nat.le_trans (dS_deep p) (by decide))
theorem dP_ok (ps : List (Nat × Nat)) : SeqAt.shaped (dP ps) = true := shaped_mk (dP_lay ps) (Nat.le_trans (dP_deep ps) (by decide))
theorem dpall_ints {K : PySem.W.Frag} {H : Hp} : ∀ ns : List Int, DpAll K H (ns.map V.int) (ns.map PyData.int)
  | [] => .nil
  | n :: ns => .cons (.int n) (dpall_ints ns)
theorem dp_I {K : PySem.W.Frag} {H : Hp} {a : Addr} {ns : List Int} (h : SqT K H a (ns.map V.int)) : Dp K H (.ref a) (dI ns) := .tup h (dpall_ints ns)
theorem dp_S {K : PySem.W.Frag} {H : Hp} {a : Addr} {i j : Nat} (h : SqT K H a [.int (i : Int), .int (j : Int)]) : Dp K H (.ref a) (dS (i, j)) := .tup h (.cons (.int _) (.cons (.int _) .nil))
mutual
theorem dp_same {K : PySem.W.Frag} {H H' : Hp} (s : Same H H') : ∀ {v : V} {d : PyData}, Dp K H v d → Dp K H' v d
  | _, _, .non => .non
  | _, _, .bl b => .bl b
  | _, _, .int i => .int i
  | _, _, .str x => .str x
  | _, _, .lst h a => .lst (s.seq h) (dpall_same s a)
  | _, _, .tup h a => .tup (Same.tup s h) (dpall_same s a)
theorem dpall_same {K : PySem.W.Frag} {H H' : Hp} (s : Same H H') : ∀ {vs : List V} {ds : List PyData}, DpAll K H vs ds → DpAll K H' vs ds
  | _, _, .nil => .nil
  | _, _, .cons h t => .cons (dp_same s h) (dpall_same s t)
end
theorem dpall_get {K : PySem.W.Frag} {H : Hp} : ∀ {vs : List V} {ds : List PyData} {i : Nat} {v : V}, DpAll K H vs ds → vs[i]? = some v → ∃ d, ds[i]? = some d ∧ Dp K H v d
  | _, _, _, _, .nil, e => by simp at e
  | _, _, 0, _, .cons h t, e => by
    simp at e
    subst e
    exact ⟨_, rfl, h⟩
  | _, _, i + 1, _, .cons h t, e => by
    obtain ⟨d, e1, e2⟩ := dpall_get (i := i) t (by simpa using e)
    exact ⟨d, by simpa using e1, e2⟩
theorem dpall_len {K : PySem.W.Frag} {H : Hp} : ∀ {vs : List V} {ds : List PyData}, DpAll K H vs ds → vs.length = ds.length
  | _, _, .nil => rfl
  | _, _, .cons h t => by rw [List.length_cons, List.length_cons, dpall_len t]
end Hd
set_option maxHeartbeats 4000000
namespace Hd
open PySem PySem.Spec PyProof.Rows L2
def top (i : Nat) : Stmt := PySem.Challenge.pw_heapsdouble_k15_whole_hardest_heaps.main.body.getD i (.Pass ⟨0, 0, 0, 0⟩)
/-! ### the draws -/
structure Tx (K : PySem.W.Frag) (mg : Str → Option Value) : Prop where
  int : mg "int" = none
  list : mg "list" = none
  max : mg "max" = none
  len : mg "len" = none
  tuple : mg "tuple" = none
  range : mg "range" = none
/-- the source of draws at h: [state, cells, index], the cells at c -/
structure DrawAt (H : Hp) (h c : Addr) : Prop where
  ex : ∃ (st ix : Int) (cells : List Int), H h = some (.lst [.int st, .ref c, .int ix]) ∧ H c = some (.lst (cells.map V.int)) ∧ cells.length ≤ 63
  ne : h ≠ c
/-- all but the source stands as it stood -/
def Kept (h c : Addr) (H H' : Hp) : Prop := ∀ a o, H a = some o → a ≠ h → a ≠ c → H' a = some o
theorem Kept.refl {h c : Addr} {H : Hp} : Kept h c H H := fun _ _ e _ _ => e
theorem Kept.of {h c : Addr} {H H' : Hp} (e : Same H H') : Kept h c H H' := fun a o q _ _ => e a o q
theorem Kept.trans {h c : Addr} {H H1 H2 : Hp} (a : Kept h c H H1) (b : Kept h c H1 H2) : Kept h c H H2 := fun x o e n m => b x o (a x o e n m) n m
theorem Kept.new {h c : Addr} {H H1 : Hp} {p : Addr} {o : HO} (a : Kept h c H H1) (hp : H p = none) : Kept h c H (upd H1 p o) := fun x u e n m => by
  rw [upd_ne (ne_of_none e hp)]
  exact a x u e n m
theorem Kept.at_h {h c : Addr} {H H1 : Hp} {o : HO} (a : Kept h c H H1) : Kept h c H (upd H1 h o) := fun x u e n m => by
  rw [upd_ne n]
  exact a x u e n m
theorem Kept.at_c {h c : Addr} {H H1 : Hp} {o : HO} (a : Kept h c H H1) : Kept h c H (upd H1 c o) := fun x u e n m => by
  rw [upd_ne m]
  exact a x u e n m
theorem DrawAt.new {H : Hp} {h c p : Addr} {o : HO} (d : DrawAt H h c) (hp : H p = none) : DrawAt (upd H p o) h c := by
  obtain ⟨⟨st, ix, cells, h1, h2, h3⟩, ne⟩ := d
  exact ⟨⟨st, ix, cells, by rw [upd_ne (ne_of_none h1 hp)]; exact h1, by rw [upd_ne (ne_of_none h2 hp)]; exact h2, h3⟩, ne⟩
theorem DrawAt.upd {H : Hp} {h c p : Addr} {o : HO} (d : DrawAt H h c) (hh : p ≠ h) (hc : p ≠ c) : DrawAt (upd H p o) h c := by
  obtain ⟨⟨st, ix, cells, h1, h2, h3⟩, ne⟩ := d
  exact ⟨⟨st, ix, cells, by rw [upd_ne (Ne.symm hh)]; exact h1, by rw [upd_ne (Ne.symm hc)]; exact h2, h3⟩, ne⟩
theorem DrawAt.same {H H' : Hp} {h c : Addr} (d : DrawAt H h c) (e : Same H H') : DrawAt H' h c := by
  obtain ⟨⟨st, ix, cells, h1, h2, h3⟩, ne⟩ := d
  exact ⟨⟨st, ix, cells, e _ _ h1, e _ _ h2, h3⟩, ne⟩
theorem DrawAt.nots {H : Hp} {h c p : Addr} (d : DrawAt H h c) (hp : H p = none) : p ≠ h ∧ p ≠ c := by
  obtain ⟨⟨st, ix, cells, h1, h2, h3⟩, ne⟩ := d
  exact ⟨(ne_of_none h1 hp).symm, (ne_of_none h2 hp).symm⟩
theorem Kept.free {h c p : Addr} {H H' : Hp} (k : Kept h c H H') (d : DrawAt H' h c) (hp : H' p = none) : H p = none := by
  obtain ⟨n1, n2⟩ := d.nots hp
  cases e : H p with
  | none => rfl
  | some o =>
    rw [k p o e n1 n2] at hp
    cases hp
theorem Kept.tup {K : PySem.W.Frag} {h c a : Addr} {H H' : Hp} {xs : List V} (k : Kept h c H H') (d : DrawAt H h c) (q : SqT K H a xs) : SqT K H' a xs := by
  obtain ⟨⟨st, ix, cells, h1, h2, h3⟩, ne⟩ := d
  rcases q with (q | ⟨o, q⟩) | q
  · exact .inl (.inl (k _ _ q (ne_of q h1 (by intro z; cases z)) (ne_of q h2 (by intro z; cases z))))
  · exact .inl (.inr ⟨o, k _ _ q (ne_of q h1 (by intro z; cases z)) (ne_of q h2 (by intro z; cases z))⟩)
  · exact .inr q
def spMix (K : PySem.W.Frag) : Sp := fun vs H Q _ => ∃ (a : Addr) (ns : List Int) (seed : Int), vs = [.ref a, .int seed] ∧ SqL K H a (ns.map V.int) ∧ ns.length ≤ 63 ∧
  ∀ (h c : Addr) (H' : Hp), H h = none → H c = none → Same H H' → DrawAt H' h c → Q (.ref h) H'
def spNext : Sp := fun vs H Q _ => ∃ (h c : Addr) (b : Int), vs = [.ref h, .int b] ∧ DrawAt H h c ∧ 0 < b ∧ b < 2 ^ 200 ∧
  ∀ (n : Int) (H' : Hp), 0 ≤ n → n < b → DrawAt H' h c → Kept h c H H' → Q (.int n) H'
/-- the place of the drawn cell -/
theorem draw_ix (cells : List Int) (ix : Int) : ∃ (j : Nat) (z : Int), ix % (if (cells.length : Int) > 1 then (cells.length : Int) else 1) = (j : Int) ∧ (cells.map V.int ++ [V.int 0])[j]? = some (.int z) ∧ (cells = [] → z = 0) ∧ (cells ≠ [] → j < cells.length ∧ (if (cells.length : Int) > 1 then (cells.length : Int) else 1) = (cells.length : Int)) := by
  have hm : 0 < (if (cells.length : Int) > 1 then (cells.length : Int) else 1) := by split <;> omega
  have h0 := Int.emod_nonneg ix (Int.ne_of_gt hm)
  have h1 := Int.emod_lt_of_pos ix hm
  obtain ⟨j, hj⟩ := Int.eq_ofNat_of_zero_le h0
  rw [hj] at h1
  cases cells with
  | nil =>
    refine ⟨j, 0, hj, ?_, fun _ => rfl, fun h => absurd rfl h⟩
    simp at h1
    have : j = 0 := by omega
    subst this
    rfl
  | cons x r =>
    have hm2 : (if (((x :: r).length : Nat) : Int) > 1 then (((x :: r).length : Nat) : Int) else 1) = (((x :: r).length : Nat) : Int) := by
      split
      · rfl
      · have : (((x :: r).length : Nat) : Int) ≥ 1 := by rw [List.length_cons]; omega
        omega
    rw [hm2] at h1
    have hlt : j < (x :: r).length := by omega
    refine ⟨j, (x :: r)[j], hj, ?_, fun h => (nomatch h), fun _ => ⟨hlt, hm2⟩⟩
    rw [List.getElem?_append_left (by rw [List.length_map]; exact hlt), List.getElem?_map, List.getElem?_eq_getElem hlt]
    rfl
theorem int_at {ns : List Int} {i : Nat} {y : V} (hi : (ns.map V.int)[i]? = some y) : ∃ z, ns[i]? = some z ∧ y = V.int z := by
  rw [List.getElem?_map] at hi
  cases e : ns[i]? with
  | none =>
    rw [e] at hi
    cases hi
  | some z =>
    rw [e] at hi
    exact ⟨z, rfl, (Option.some.inj hi).symm⟩
section
variable {P : Program} {w : World} {K : PySem.W.Frag} {mg : Str → Option Value} {base : Heap}
abbrev s_l_mix : Stmt := top 38
theorem sc_l_mix : FnScope ["_law_script", "_law_seed", "_law_state", "_law_cell"] ["_law_script", "_law_seed"] (defScope s_l_mix) := ⟨rfl, rfl, rfl, by decide +kernel, rfl, by decide +kernel, by decide +kernel⟩
theorem ok_mix {f : Addr} {fd : FuncData} (F : Fun K "_law_mix" "_law_mix" s_l_mix f fd) (T : Tx K mg) : FnOk P w K mg base CX0 1 f fd ["_law_script", "_law_seed"] (spMix K) := by
  refine F.ok sc_l_mix (fun vs H Q E h => ?_) (fun cdv A outer s H vs Q E hr h => ?_)
  · obtain ⟨a, ns, seed, rfl, _⟩ := h
    rfl
  · obtain ⟨a, ns, seed, rfl, hS, hlen, k⟩ := h
    refine ⟨_, (pss_cons (ps_set (i := 2) sc_l_mix.nd rfl (Or.inl rfl) (pv 1))
      (pss_cons (ps_for PassesOwn.never rfl (pi_list (pv 0)) (pg_name (i := 3) sc_l_mix.nd rfl (Or.inl rfl))
      (pss_one (ps_set (i := 2) sc_l_mix.nd rfl (Or.inl rfl) (pe_op op_mod (pe_callTy call_int1 (by rfl) T.int (by decide +kernel) (pa_cons (pe_op op_add (pe_op op_add (pe_op op_mul (pv 2) pe_int) (pe_op op_mod (pe_callTy call_int1 (by rfl) T.int (by decide +kernel) (pa_cons (pv 3) pa_nil)) pe_int)) pe_int) pa_nil)) pe_int))))
      (pss_one (ps_ret (pe_lst (pa_cons (pv 2) (pa_cons (pe_callTy call_list_of (by rfl) T.list (by decide +kernel) (pa_cons (pv 0) pa_nil)) (pa_cons pe_int pa_nil)))))))), ?_⟩
    refine ⟨_, rfl, _, rfl, a, rfl, ⟨_, hS⟩, for_list (K := K) (a := a) (xs := ns.map V.int) (fun i σ H2 => ∃ (st : Int) (v : Option V), σ = [some (.ref a), some (.int seed), some (.int st), v] ∧ H2 = H)
      ⟨seed, none, rfl, rfl⟩ (fun i σ H2 _ ⟨_, _, _, e⟩ => by rw [e]; exact hS) ?_ ?_⟩
    · rintro i y σ H2 hi ⟨st, v, rfl, rfl⟩
      obtain ⟨z, _, rfl⟩ := int_at hi
      refine ⟨_, rfl, _, _, rfl, rfl, .inr ⟨by decide, by decide⟩, _, rfl, .inl ⟨_, rfl, _, _, rfl, rfl, (by show (0 : Int) < 2147483629; decide), _, _, rfl, rfl, _, _, rfl, rfl, .inl ⟨_, rfl, _, _, rfl, rfl, (by show (0 : Int) < 2147483647; decide), ?_⟩⟩⟩
      exact ⟨_, _, rfl, rfl⟩
    · rintro σ H2 ⟨st, v, rfl, rfl⟩
      refine ⟨_, rfl, _, rfl, a, _, rfl, .inl hS, fun c hc => ⟨by show 3 ≤ sizeLine; decide, fun h hh => ?_⟩⟩
      have hch : h ≠ c := fun e => by
        rw [e, upd_same] at hh
        cases hh
      have hh0 : H2 h = none := by
        rw [upd_ne hch] at hh
        exact hh
      refine k h c _ hh0 hc (same_upd (same_upd (Same.refl _) hc) hh0) ⟨⟨st, 0, ns, upd_same, by rw [upd_ne hch.symm, upd_same], hlen⟩, hch⟩
abbrev s_l_next : Stmt := top 39
theorem sc_l_next : FnScope ["_law_h", "_law_bound", "_law_cell", "_law_cells"] ["_law_h", "_law_bound"] (defScope s_l_next) := ⟨rfl, rfl, rfl, by decide +kernel, rfl, by decide +kernel, by decide +kernel⟩
theorem ok_next {f : Addr} {fd : FuncData} (F : Fun K "_law_next" "_law_next" s_l_next f fd) (T : Tx K mg) : FnOk P w K mg base CX0 1 f fd ["_law_h", "_law_bound"] spNext := by
  refine F.ok sc_l_next (fun vs H Q E h => ?_) (fun cdv A outer s H vs Q E hr h => ?_)
  · obtain ⟨a, c, b, rfl, _⟩ := h
    rfl
  · obtain ⟨h, c, b, rfl, D, hb, hb2, k⟩ := h
    obtain ⟨⟨st, ix, cells, hh, hc, hl⟩, hne0⟩ := id D
    refine ⟨_, (pss_cons (ps_set (i := 2) sc_l_next.nd rfl (Or.inl rfl) (pe_ix ix_list (pe_op op_cat (pe_ix ix_list (pv 0) pe_int (fun _ _ => rfl)) (pe_lst (pa_cons pe_int pa_nil))) (pe_op op_mod (pe_callTy call_int1 (by rfl) T.int (by decide +kernel) (pa_cons (pe_ix ix_list (pv 0) pe_int (fun _ _ => rfl)) pa_nil)) (pe_callB (call_max2 rfl) (by rfl) T.max (by decide +kernel) (pa_cons pe_int (pa_cons (pe_callB call_len_seq (by rfl) T.len PySem.boot_len (pa_cons (pe_ix ix_list (pv 0) pe_int (fun _ _ => rfl)) pa_nil)) pa_nil)))) (fun _ _ => rfl)))
      (pss_cons (ps_if (pt_cmpR op_ge (pv 2) (pe_op op_pow pe_int pe_int) (nomark _)) (pss_cons (ps_set (i := 3) sc_l_next.nd rfl (Or.inl rfl) (pe_ix ix_list (pv 0) pe_int (fun _ _ => rfl)))
      (pss_cons (ps_asg (pe_op op_fdivW (pv 2) (pv 1)) (pg_sub (pv 3) (pe_op op_mod (pe_callTy call_int1 (by rfl) T.int (by decide +kernel) (pa_cons (pe_ix ix_list (pv 0) pe_int (fun _ _ => rfl)) pa_nil)) (pe_callB call_len_seq (by rfl) T.len PySem.boot_len (pa_cons (pv 3) pa_nil))) set_list))
      (pss_one (ps_ret (pe_op op_mod (pe_callTy call_int1 (by rfl) T.int (by decide +kernel) (pa_cons (pv 2) pa_nil)) (pv 1)))))) pss_nil)
      (pss_cons (ps_asg (pe_op op_mod (pe_callTy call_int1 (by rfl) T.int (by decide +kernel) (pa_cons (pe_op op_add (pe_op op_add (pe_op op_mul (pe_ix ix_list (pv 0) pe_int (fun _ _ => rfl)) pe_int) (pe_op op_mul (pv 2) pe_int)) pe_int) pa_nil)) pe_int) (pg_sub (pv 0) pe_int set_list))
      (pss_cons (ps_asg (pe_op op_add (pe_ix ix_list (pv 0) pe_int (fun _ _ => rfl)) pe_int) (pg_sub (pv 0) pe_int set_list))
      (pss_one (ps_ret (pe_op op_mod (pe_callTy call_int1 (by rfl) T.int (by decide +kernel) (pa_cons (pe_op op_fdiv (pe_ix ix_list (pv 0) pe_int (fun _ _ => rfl)) pe_int) pa_nil)) (pv 1)))))))), ?_⟩
    obtain ⟨j, z, ej, ez, e0, e1⟩ := draw_ix cells ix
    -- _law_cell
    refine ⟨_, rfl, h, _, _, _, rfl, rfl, SqL.of hh, rfl, by show 1 ≤ sizeLine; decide, fun p hp => ?_⟩
    have nph : h ≠ p := ne_of_none hh hp
    have npc : c ≠ p := ne_of_none hc hp
    refine ⟨c, p, _, _, rfl, rfl, by rw [upd_ne npc]; exact hc, upd_same, ?_, fun q hq => ?_⟩
    · rw [List.length_map, sizeLine_eq]
      show cells.length + 1 ≤ _
      omega
    have nqp : p ≠ q := ne_of_none upd_same hq
    have hq' : H q = none := by
      rw [upd_ne nqp.symm] at hq
      exact hq
    have nqh : h ≠ q := ne_of_none hh hq'
    have nqc : c ≠ q := ne_of_none hc hq'
    have hh2 : (upd (upd H p (.lst [.int 0])) q (.lst (cells.map V.int ++ [.int 0]))) h = some (.lst [.int st, .ref c, .int ix]) := by rw [upd_ne nqh, upd_ne nph]; exact hh
    have hc2 : (upd (upd H p (.lst [.int 0])) q (.lst (cells.map V.int ++ [.int 0]))) c = some (.lst (cells.map V.int)) := by rw [upd_ne nqc, upd_ne npc]; exact hc
    have hq2 : (upd (upd H p (.lst [.int 0])) q (.lst (cells.map V.int ++ [.int 0]))) q = some (.lst (cells.map V.int ++ [.int 0])) := upd_same
    have kk : Kept h c H (upd (upd H p (.lst [.int 0])) q (.lst (cells.map V.int ++ [.int 0]))) := (Kept.refl.new hp).new hq'
    generalize upd (upd H p (.lst [.int 0])) q (.lst (cells.map V.int ++ [.int 0])) = H2 at hh2 hc2 hq2 kk ⊢
    refine ⟨_, rfl, h, _, _, _, rfl, rfl, SqL.of hh2, rfl, .inl ⟨_, rfl, _, rfl, h, _, _, _, rfl, rfl, SqL.of hh2, rfl, c, _, rfl, .inl (SqL.of hc2), _, _, rfl, ?_⟩⟩
    rw [List.length_map]
    refine ⟨_, _, rfl, rfl, (by split <;> omega), q, _, _, _, rfl, rfl, SqL.of hq2, at_of ej ez, ?_⟩
    -- if _law_cell >= 10 ** 18
    refine ⟨_, rfl, _, _, rfl, rfl, ⟨by decide, by decide, by decide⟩, _, _, rfl, rfl, _, rfl, ?_⟩
    refine ite2 (fun hge => ?_) (fun _ => ?_)
    · have hz : (10 : Int) ^ 18 ≤ z := of_decide_eq_true hge
      have hz0 : z ≠ 0 := by omega
      have hne : cells ≠ [] := fun e => hz0 (e0 e)
      obtain ⟨hj, em⟩ := e1 hne
      rw [em] at ej
      refine ⟨_, rfl, h, _, _, _, rfl, rfl, SqL.of hh2, rfl, _, rfl, _, rfl, _, _, rfl, rfl, wide_div hb (b := 200) ?_ (by decide) (by decide), ?_⟩
      · omega
      refine ⟨_, rfl, _, rfl, h, _, _, _, rfl, rfl, SqL.of hh2, rfl, .inl ⟨_, rfl, _, rfl, c, _, rfl, .inl (SqL.of hc2), _, _, rfl, rfl, ?_, ?_⟩⟩
      · rw [List.length_map]
        omega
      refine ⟨c, _, _, j, rfl, rfl, hc2, ?_, ?_⟩
      · rw [List.length_map, ej]
        unfold ixN
        rw [if_pos (by omega), if_pos (by omega)]
        simp
      refine ⟨_, rfl, .inl ⟨_, rfl, _, rfl, _, _, rfl, rfl, hb, ?_⟩⟩
      refine k _ _ (Int.emod_nonneg _ (by omega)) (Int.emod_lt_of_pos _ hb) ⟨⟨st, ix, cells.set j (z / b), ?_, ?_, by rw [List.length_set]; exact hl⟩, hne0⟩ kk.at_c
      · rw [upd_ne hne0]
        exact hh2
      · rw [upd_same, List.map_set]
    · -- _law_h[0] = ..
      refine ⟨_, rfl, h, _, _, _, rfl, rfl, SqL.of hh2, rfl, _, _, rfl, rfl, .inr ⟨by decide, by decide⟩, _, rfl, _, _, rfl, rfl, .inr ⟨by decide, by decide⟩, _, _, rfl, rfl, _, _, rfl, rfl, .inl ⟨_, rfl, _, _, rfl, rfl, (by show (0 : Int) < 2147483647; decide), ?_⟩⟩
      refine ⟨_, rfl, h, _, _, 0, rfl, rfl, hh2, rfl, ?_⟩
      -- _law_h[2] = _law_h[2] + 1
      refine ⟨_, rfl, h, _, _, _, rfl, rfl, SqL.of upd_same, rfl, _, _, rfl, rfl, _, rfl, h, _, _, 2, rfl, rfl, upd_same, rfl, ?_⟩
      refine ⟨_, rfl, h, _, _, _, rfl, rfl, SqL.of upd_same, rfl, _, _, rfl, rfl, ⟨by decide, by decide⟩, .inl ⟨_, rfl, _, rfl, _, _, rfl, rfl, hb, ?_⟩⟩
      refine k _ _ (Int.emod_nonneg _ (by omega)) (Int.emod_lt_of_pos _ hb) ⟨⟨_, _, cells, upd_same, ?_, hl⟩, hne0⟩ kk.at_h.at_h
      rw [upd_ne hne0.symm, upd_ne hne0.symm]
      exact hc2
/-- heaps are drawn: so many, none below 0, not all empty -/
structure HeapsOk (least most : Nat) (ns : List Int) : Prop where
  lo : least ≤ ns.length
  hi : ns.length ≤ most
  ge : ∀ n ∈ ns, 0 ≤ n
  le : ∀ n ∈ ns, n ≤ 10 ^ 30
  pos : ∃ n ∈ ns, 0 < n
def spHeaps : Sp := fun vs H Q _ => ∃ (h c : Addr) (least most : Nat), vs = [.ref h, .int (least : Int), .int (most : Int)] ∧ DrawAt H h c ∧ 1 ≤ least ∧ least ≤ most ∧ most ≤ 6 ∧
  ∀ (t : Addr) (ns : List Int) (H' : Hp), HeapsOk least most ns → H t = none → TupZ H' t (ns.map V.int) → DrawAt H' h c → Kept h c H H' → Q (.ref t) H'
theorem pick5 {x0 x1 x2 x3 x4 : Int} {n : Int} (h0 : 0 ≤ n) (h5 : n < 5) : ∃ z, atI [V.int x0, V.int x1, V.int x2, V.int x3, V.int x4] n = some (V.int z) ∧ z ∈ [x0, x1, x2, x3, x4] := by
  have : n = 0 ∨ n = 1 ∨ n = 2 ∨ n = 3 ∨ n = 4 := by omega
  rcases this with e | e | e | e | e <;> subst e <;> exact ⟨_, rfl, by simp⟩
abbrev s_l_heaps : Stmt := top 40
theorem sc_l_heaps : FnScope ["_law_h", "_law_least", "_law_most", "_law_size", "_law_far", "_law_part", "_law_found", "_law_k"] ["_law_h", "_law_least", "_law_most"] (defScope s_l_heaps) := ⟨rfl, rfl, rfl, by decide +kernel, rfl, by decide +kernel, by decide +kernel⟩
theorem ok_heaps {f : Addr} {fd : FuncData} (F : Fun K "_law_heaps" "_law_heaps" s_l_heaps f fd) (T : Tx K mg) (C_l_next : Cal P w K mg base CX0 1 "_law_next" ["_law_h", "_law_bound"] spNext) : FnOk P w K mg base CX0 2 f fd ["_law_h", "_law_least", "_law_most"] spHeaps := by
  refine F.ok sc_l_heaps (fun vs H Q E h => ?_) (fun cdv A outer s H vs Q E hr h => ?_)
  · obtain ⟨a, c, l, m, rfl, _⟩ := h
    rfl
  · obtain ⟨h, c, least, most, rfl, D, h1, h2, h3, k⟩ := h
    refine ⟨_, (pss_cons (ps_set (i := 3) sc_l_heaps.nd rfl (Or.inl rfl) (pe_op op_add (pv 1) (pe_cal C_l_next hr rfl pass0 (pa_cons (pv 0) (pa_cons (pe_op op_add (pe_op op_sub (pv 2) (pv 1)) pe_int) pa_nil)))))
      (pss_cons (ps_set (i := 4) sc_l_heaps.nd rfl (Or.inr rfl) (pe_ix ix_list (pe_lst (pa_cons pe_int (pa_cons pe_int (pa_cons pe_int (pa_cons (pe_op op_pow pe_int pe_int) (pa_cons (pe_op op_pow pe_int pe_int) pa_nil)))))) (pe_cal C_l_next hr rfl pass0 (pa_cons (pv 0) (pa_cons pe_int pa_nil))) (fun _ _ => rfl)))
      (pss_cons (ps_set (i := 5) sc_l_heaps.nd rfl (Or.inr rfl) (pe_ix ix_list (pe_lst (pa_cons pe_int (pa_cons pe_int (pa_cons pe_int (pa_cons pe_int (pa_cons pe_int pa_nil)))))) (pe_cal C_l_next hr rfl pass0 (pa_cons (pv 0) (pa_cons pe_int pa_nil))) (fun _ _ => rfl)))
      (pss_cons (ps_setLc (i := 6) (own := [("_law_k", 7)]) (g := gName 7) (by rfl) sc_l_heaps.nd rfl rfl (sw_true rfl rfl rfl (by decide +kernel)) (pi_range1 rfl T.range (pa_cons (pv 3) pa_nil)) (blkOk_by (own := [("_law_k", 7)]) (N := ["_law_h", "_law_least", "_law_most", "_law_size", "_law_far", "_law_part", "_law_found", "_law_k"]) (sc := defScope s_l_heaps) (by decide +kernel)) (fun _ _ _ _ _ => pg_name (i := 7) sc_l_heaps.nd rfl (Or.inl rfl)) (fun _ _ _ _ _ => pts_nil) (fun _ _ _ _ _ => (pe_op op_mul (pv 5) (pe_cal C_l_next hr rfl pass0 (pa_cons (pv 0) (pa_cons (pv 4) pa_nil))))))
      (pss_cons (ps_if (pt_cmpR op_eq (pe_callB (cr_max rfl) (by rfl) T.max (by decide +kernel) (pa_cons (pv 6) pa_nil)) pe_int (nomark _)) (pss_one (ps_asg (pv 5) (pg_sub (pv 6) (pe_cal C_l_next hr rfl pass0 (pa_cons (pv 0) (pa_cons (pv 3) pa_nil))) set_list))) pss_nil)
      (pss_one (ps_ret (pe_callTy call_tupleZ (by rfl) T.tuple (by decide +kernel) (pa_cons (pv 6) pa_nil))))))))), ?_⟩
    -- _law_size
    refine ⟨_, rfl, _, rfl, _, rfl, _, rfl, _, _, rfl, rfl, _, _, rfl, rfl, h, c, _, rfl, D, by omega, by omega, fun n1 H1 l1 u1 D1 k1 => ⟨_, _, rfl, rfl, ?_⟩⟩
    obtain ⟨n1, rfl⟩ := Int.eq_ofNat_of_zero_le l1
    -- _law_far
    refine ⟨_, _, rfl, rfl, ⟨by decide, by decide, by decide⟩, _, _, rfl, rfl, ⟨by decide, by decide, by decide⟩, by show 5 ≤ sizeLine; decide, fun p hp => ?_⟩
    refine ⟨_, rfl, h, c, _, rfl, D1.new hp, by omega, by omega, fun n2 H2 l2 u2 D2 k2 => ?_⟩
    obtain ⟨np1, np2⟩ := D1.nots hp
    obtain ⟨far, e2, far_in⟩ := pick5 (x0 := 4) (x1 := 9) (x2 := 60) (x3 := 10 ^ (15 : Int).toNat) (x4 := 10 ^ (29 : Int).toNat) l2 u2
    refine ⟨p, _, _, _, rfl, rfl, SqL.of (k2 p _ upd_same np1 np2), e2, ?_⟩
    have hfar : 0 < far ∧ far ≤ 10 ^ 29 := by
      simp only [List.mem_cons, List.mem_nil_iff, or_false] at far_in
      rcases far_in with e | e | e | e | e <;> subst e <;> decide
    have k2' : Kept h c H H2 := (k1.new (k1.free D1 hp)).trans k2
    -- _law_part
    refine ⟨by show 5 ≤ sizeLine; decide, fun p3 hp3 => ?_⟩
    refine ⟨_, rfl, h, c, _, rfl, D2.new hp3, by omega, by omega, fun n3 H3 l3 u3 D3 k3 => ?_⟩
    obtain ⟨mp1, mp2⟩ := D2.nots hp3
    obtain ⟨part, e3, part_in⟩ := pick5 (x0 := 1) (x1 := 1) (x2 := 2) (x3 := 3) (x4 := 8) l3 u3
    refine ⟨p3, _, _, _, rfl, rfl, SqL.of (k3 p3 _ upd_same mp1 mp2), e3, ?_⟩
    have hpart : 1 ≤ part ∧ part ≤ 8 := by
      simp only [List.mem_cons, List.mem_nil_iff, or_false] at part_in
      rcases part_in with e | e | e | e | e <;> subst e <;> decide
    have k3' : Kept h c H H3 := (k2'.new (k2'.free D2 hp3)).trans k3
    -- _law_found
    refine ⟨_, rfl, _, rfl, by omega, by omega, ?_⟩
    have esz : ((least : Int) + (n1 : Int)).toNat = least + n1 := by omega
    rw [esz]
    intro DD hDD
    obtain ⟨dd1, dd2⟩ := D3.nots hDD
    refine lc_range (lo := 0) (n := least + n1) (fun i H4 => ∃ ms : List Int, H4 DD = some (.lst (ms.map V.int)) ∧ ms.length = i ∧ (∀ m ∈ ms, 0 ≤ m ∧ m ≤ 8 * 10 ^ 29) ∧ DrawAt H4 h c ∧ Kept h c H H4) ?_ ?_ ?_
    · exact ⟨[], upd_same, rfl, fun m hm => (nomatch hm), D3.new hDD, k3'.new (k3'.free D3 hDD)⟩
    · rintro i H4 hi ⟨ms, hms, hlen, hb, D4, k4⟩
      refine ⟨rfl, _, rfl, _, rfl, _, rfl, h, c, far, rfl, D4, hfar.1, by omega, fun n H5 l5 u5 D5 k5 => ⟨_, _, rfl, rfl, .inl ⟨by omega, by omega⟩, ms.map V.int, k5 DD _ hms dd1 dd2, ?_, ?_⟩⟩
      · rw [List.length_map, sizeLine_eq]
        omega
      refine ⟨ms ++ [part * n], by rw [upd_same, List.map_append]; rfl, by rw [List.length_append, hlen]; rfl, fun m hm => ?_, D5.upd dd1 dd2, (k4.trans k5).new (k3'.free D3 hDD)⟩
      rcases List.mem_append.mp hm with hm | hm
      · exact hb m hm
      · have em : m = part * n := by simpa using hm
        subst em
        refine ⟨Int.mul_nonneg (by omega) l5, ?_⟩
        have q := Int.mul_le_mul (a := part) (b := n) (c := 8) (d := 10 ^ 29) hpart.2 (by omega) l5 (by omega)
        exact q
    · rintro H4 ⟨ms, hms, hlen, hb, D4, k4⟩
      have hlen' : ms.length ≤ most := by omega
      have hpos : 0 < ms.length := by omega
      refine ⟨_, rfl, DD, ms, rfl, SqL.of hms, hpos, fun m hm hle => ⟨rfl, _, rfl, ?_⟩⟩
      refine ite2 (fun hz => ?_) (fun hz => ?_)
      · refine ⟨_, rfl, _, rfl, _, rfl, _, rfl, h, c, _, rfl, D4, by omega, by omega, fun n H5 l5 u5 D5 k5 => ?_⟩
        obtain ⟨n, rfl⟩ := Int.eq_ofNat_of_zero_le l5
        have hn : n < ms.length := by omega
        refine ⟨DD, _, _, n, rfl, rfl, k5 DD _ hms dd1 dd2, ?_, ?_⟩
        · rw [List.length_map]
          unfold ixN
          rw [if_pos (by omega), if_pos (by omega)]
          simp
        refine ⟨_, rfl, DD, _, rfl, SqL.of upd_same, fun t o ht ho => ?_⟩
        have htD : t ≠ DD := fun e => by
          rw [e, upd_same] at ht
          cases ht
        have D6 := D5.upd (o := .lst ((ms.map V.int).set n (.int part))) dd1 dd2
        have k6 : Kept h c H (upd H5 DD (.lst ((ms.map V.int).set n (.int part)))) := (k4.trans k5).new (k3'.free D3 hDD)
        refine k t (ms.set n part) _ ⟨by rw [List.length_set]; omega, by rw [List.length_set]; omega, fun y hy => ?_, fun y hy => ?_, ⟨part, ?_, by omega⟩⟩ (k6.free D6 ht) ⟨o, ho, by rw [upd_same, List.map_set]⟩ (D6.new ht) (k6.new (k6.free D6 ht))
        · rcases List.mem_or_eq_of_mem_set hy with hy | hy
          · exact (hb y hy).1
          · omega
        · rcases List.mem_or_eq_of_mem_set hy with hy | hy
          · have := (hb y hy).2
            omega
          · omega
        · exact List.mem_iff_getElem?.mpr ⟨n, by rw [List.getElem?_set_self hn]⟩
      · refine ⟨_, rfl, DD, _, rfl, SqL.of hms, fun t o ht ho => ?_⟩
        have hm0 : m ≠ 0 := fun e => hz (decide_eq_true (by rw [e]))
        have := (hb m hm).1
        refine k t ms _ ⟨by omega, hlen', fun y hy => (hb y hy).1, fun y hy => ?_, ⟨m, hm, by omega⟩⟩ (k4.free D4 ht) ⟨o, ho, upd_same⟩ (D4.new ht) (k4.new (k4.free D4 ht))
        have := (hb y hy).2
        omega
end
end Hd
set_option maxHeartbeats 4000000
/-! Looks at values of any kind. -/
namespace Hd
open PySem PySem.Spec PyProof.Rows L2
theorem pe_gint {X : Cx} {x : Str} {v : Int} {pos : Pos} (hg : Gl X x) (hm : ∃ t, X.mg x = some (.int v t)) (hd : (x == ("__debug__" : Str)) = false := by decide) : PE X (.Name x pos) (tC (.int v)) := by
  obtain ⟨t, hm⟩ := hm
  exact pe_glob hg hm ⟨t, rfl⟩ hd
theorem tyx_tup {K : PySem.W.Frag} {H : Hp} {a : Addr} {xs : List V} (h : SqT K H a xs) : TyX K H (.ref a) (.type "tuple") := by
  rcases h with (h | ⟨o, h⟩) | ⟨o, its, n, hk, hc, _⟩
  · exact .base (.tup h)
  · exact .fTuple h
  · exact .kTuple hk hc
theorem tyx_lst {K : PySem.W.Frag} {H : Hp} {a : Addr} {xs : List V} (h : SqL K H a xs) : TyX K H (.ref a) (.type "list") := by
  rcases h with (h | ⟨o, h⟩) | ⟨o, its, n, hk, hc, _⟩
  · exact .base (.lst h)
  · exact .base (.frz h)
  · exact .kList hk hc
/-- the built-in names, none of them stored by the program -/
structure Tz (mg : Str → Option Value) : Prop where
  int : mg "int" = none
  bool : mg "bool" = none
  list : mg "list" = none
  len : mg "len" = none
  tuple : mg "tuple" = none
  isinstance : mg "isinstance" = none
  all : mg "all" = none
  any : mg "any" = none
  sum : mg "sum" = none
  enumerate : mg "enumerate" = none
  range : mg "range" = none
  sorted : mg "sorted" = none
  set : mg "set" = none
  max : mg "max" = none
  min : mg "min" = none
  str : mg "str" = none
structure Tp (mg : Str → Option Value) : Prop extends Tz mg where
  c_FEWEST_HEAPS : ∃ t, mg "FEWEST_HEAPS" = some (.int 2 t)
  c_MOST_HEAPS : ∃ t, mg "MOST_HEAPS" = some (.int 6 t)
  c_GREATEST : ∃ t, mg "GREATEST" = some (.int (10 ^ 30) t)
/-! ### the mirror -/
def inR (l g v : Int) : Bool := decide (l ≤ v) && decide (v ≤ g)
def isIntD (l g : Int) : PyData → Bool
  | .int i => inR l g i
  | _ => false
def intD : PyData → Int
  | .int i => i
  | _ => 0
def hpsB (ns : List Int) : Bool := (decide (2 ≤ ns.length) && decide (ns.length ≤ 6)) && ((ns.map (inR 0 (10 ^ 30))).all id && decide (0 < ns.sum))
/-- a value that is heaps -/
def hpsD : PyData → Bool
  | .tuple ds => (decide (2 ≤ ds.length) && decide (ds.length ≤ 6)) && ((ds.map (isIntD 0 (10 ^ 30))).all id && decide (0 < (ds.map intD).sum))
  | _ => false
theorem hpsD_dI (ns : List Int) : hpsD (dI ns) = hpsB ns := by
  show ((decide (2 ≤ (ns.map PyData.int).length) && decide ((ns.map PyData.int).length ≤ 6)) && (((ns.map PyData.int).map (isIntD 0 (10 ^ 30))).all id && decide (0 < ((ns.map PyData.int).map intD).sum))) = _
  unfold hpsB
  rw [List.length_map, List.map_map, List.map_map]
  congr 2
  have : (intD ∘ PyData.int) = id := by
    funext x
    rfl
  rw [this, List.map_id]
/-- a value that is a pair of two different places below n -/
def prD (n : Int) : PyData → Bool
  | .tuple [a, b] => isIntD 0 (n - 1) a && (isIntD 0 (n - 1) b && !decide (intD a = intD b))
  | _ => false
/-- a value that is a step that can be made -/
def stD (ns : List Int) : PyData → Bool
  | .tuple [a, b] => prD ns.length (.tuple [a, b]) && can ns (intD a).toNat (intD b).toNat
  | _ => false
theorem isInt_eq {l g : Int} {d : PyData} (h : isIntD l g d = true) : ∃ i, d = .int i ∧ l ≤ i ∧ i ≤ g := by
  cases d <;> first | cases h | skip
  rename_i i
  unfold isIntD inR at h
  simp only [Bool.and_eq_true, decide_eq_true_eq] at h
  exact ⟨i, rfl, h.1, h.2⟩
theorem prD_eq {n : Nat} {d : PyData} (h : prD n d = true) : ∃ i j : Nat, d = dS (i, j) ∧ i < n ∧ j < n ∧ i ≠ j := by
  unfold prD at h
  split at h
  · simp only [Bool.and_eq_true, Bool.not_eq_true', decide_eq_false_iff_not] at h
    obtain ⟨h1, h2, h3⟩ := h
    obtain ⟨a, rfl, a1, a2⟩ := isInt_eq h1
    obtain ⟨b, rfl, b1, b2⟩ := isInt_eq h2
    have z : ¬ a = b := h3
    refine ⟨a.toNat, b.toNat, ?_, by omega, by omega, by omega⟩
    unfold dS
    simp only
    rw [Int.toNat_of_nonneg a1, Int.toNat_of_nonneg b1]
  · cases h
theorem prD_dS {n i j : Nat} : prD n (dS (i, j)) = (decide (i < n) && (decide (j < n) && decide (i ≠ j))) := by
  unfold dS prD isIntD inR intD
  simp only
  by_cases h1 : i < n <;> by_cases h2 : j < n <;> by_cases h3 : i = j <;> simp [h1, h2, h3] <;> omega
theorem stD_dS {ns : List Int} {i j : Nat} : stD ns (dS (i, j)) = ((decide (i < ns.length) && (decide (j < ns.length) && decide (i ≠ j))) && can ns i j) := by
  show (prD ns.length (dS (i, j)) && can ns ((i : Int)).toNat ((j : Int)).toNat) = _
  rw [prD_dS]
  simp only [Int.toNat_natCast]
theorem stD_pr {ns : List Int} {d : PyData} (h : stD ns d = true) : ∃ i j : Nat, d = dS (i, j) ∧ i < ns.length ∧ j < ns.length ∧ i ≠ j ∧ can ns i j = true := by
  unfold stD at h
  split at h
  · rename_i a b
    rw [Bool.and_eq_true] at h
    obtain ⟨i, j, e, h1, h2, h3⟩ := prD_eq h.1
    refine ⟨i, j, e, h1, h2, h3, ?_⟩
    have hc := h.2
    unfold dS at e
    simp only [PyData.tuple.injEq, List.cons.injEq, and_true] at e
    obtain ⟨rfl, rfl⟩ := e
    exact hc
  · cases h
theorem stD_nopr {ns : List Int} {d : PyData} (h : prD ns.length d = false) : stD ns d = false := by
  unfold stD
  split
  · rw [h, Bool.false_and]
  · rfl
theorem getD_at {ns : List Int} {i : Nat} (h : i < ns.length) : (ns.map V.int)[i]? = some (.int (ns.getD i 0)) := by
  rw [List.getElem?_map, List.getElem?_eq_getElem h]
  show some (V.int ns[i]) = _
  congr 2
  rw [List.getD_eq_getElem?_getD, List.getElem?_eq_getElem h]
  rfl
theorem ixN_nat {n i : Nat} (h : i < n) : ixN n (i : Int) = some i := by
  unfold ixN
  rw [if_pos (by omega), if_pos (by omega)]
  simp
theorem hps_len {ns : List Int} (h : hpsB ns = true) : 2 ≤ ns.length ∧ ns.length ≤ 6 := by
  unfold hpsB at h
  simp only [Bool.and_eq_true, decide_eq_true_eq] at h
  exact h.1
/-- all ints: what stands there -/
theorem dpall_isint {K : PySem.W.Frag} {H : Hp} {l g : Int} : ∀ {vs : List V} {ds : List PyData}, DpAll K H vs ds → (ds.map (isIntD l g)).all id = true → vs = (ds.map intD).map V.int ∧ ds = (ds.map intD).map PyData.int
  | _, _, .nil, _ => ⟨rfl, rfl⟩
  | _, _, .cons h t, e => by
    rw [List.map_cons, List.all_cons, Bool.and_eq_true] at e
    obtain ⟨i, rfl, _, _⟩ := isInt_eq e.1
    cases h
    obtain ⟨e1, e2⟩ := dpall_isint t e.2
    exact ⟨by rw [List.map_cons, List.map_cons, ← e1]; rfl, by rw [List.map_cons, List.map_cons, ← e2]; rfl⟩
theorem hpsD_eq {d : PyData} (h : hpsD d = true) : ∃ ns, d = dI ns ∧ hpsB ns = true := by
  unfold hpsD at h
  split at h
  · rename_i ds
    have h0 := h
    simp only [Bool.and_eq_true] at h
    have e : ∀ (xs : List PyData), (xs.map (isIntD 0 (10 ^ 30))).all id = true → xs = (xs.map intD).map PyData.int := by
      intro xs
      induction xs with
      | nil => exact fun _ => rfl
      | cons x xs ih =>
        intro q
        rw [List.map_cons, List.all_cons, Bool.and_eq_true] at q
        obtain ⟨i, rfl, _, _⟩ := isInt_eq q.1
        have := ih q.2
        rw [List.map_cons, List.map_cons, ← this]
        rfl
    refine ⟨ds.map intD, ?_, ?_⟩
    · unfold dI
      rw [← e ds h.2.1]
    · rw [← hpsD_dI]
      unfold dI
      rw [← e ds h.2.1]
      exact h0
  · cases h
/-! ### the promises -/
def spIsInt (K : PySem.W.Frag) : Sp := fun vs H Q _ => ∃ (v : V) (d : PyData) (l g : Int), vs = [v, .int l, .int g] ∧ Dp K H v d ∧ Q (.bl (isIntD l g d)) H
def spIsHeaps (K : PySem.W.Frag) : Sp := fun vs H Q _ => ∃ (v : V) (d : PyData), vs = [v] ∧ Dp K H v d ∧ ∀ H', Same H H' → Q (.bl (hpsD d)) H'
def spChkHeapsD (K : PySem.W.Frag) (C : Addr) : Sp := fun vs H Q E => ∃ (v : V) (d : PyData), vs = [v] ∧ Dp K H v d ∧ (hpsD d = true → ∀ H', Same H H' → Q .non H') ∧ (hpsD d = false → ∀ H', Same H H' → E (.ref C) none H')
def spChkHeaps (K : PySem.W.Frag) : Sp := fun vs H Q _ => ∃ (t : Addr) (ns : List Int), vs = [.ref t] ∧ SqT K H t (ns.map V.int) ∧ hpsB ns = true ∧ ∀ H', Same H H' → Q .non H'
theorem chk_good {K : PySem.W.Frag} {C : Addr} {vs : List V} {H : Hp} {Q : VK} {E : XK} (h : spChkHeaps K vs H Q E) : spChkHeapsD K C vs H Q E0 := by
  obtain ⟨t, ns, rfl, hS, hg, k⟩ := h
  exact ⟨_, _, rfl, dp_I hS, fun _ => k, fun z => by rw [hpsD_dI, hg] at z; cases z⟩
section
variable {P : Program} {w : World} {K : PySem.W.Frag} {mg : Str → Option Value} {base : Heap}
abbrev s_is_integer : Stmt := top 17
theorem sc_is_integer : FnScope ["value", "least", "greatest"] ["value", "least", "greatest"] (defScope s_is_integer) := ⟨rfl, rfl, rfl, by decide +kernel, rfl, by decide +kernel, by decide +kernel⟩
theorem ok_is_integer {f : Addr} {fd : FuncData} (F : Fun K "is_integer" "is_integer" s_is_integer f fd) (T : Tp mg) : FnOk P w K mg base CX0 1 f fd ["value", "least", "greatest"] (spIsInt K) := by
  refine F.ok sc_is_integer (fun vs H Q E h => ?_) (fun cdv A outer s H vs Q E hr h => ?_)
  · obtain ⟨v, d, l, g, rfl, _⟩ := h
    rfl
  · obtain ⟨v, d, l, g, rfl, hd, k⟩ := h
    refine ⟨_, (pss_cons (ps_if (PW.pt (pw_or (pt_val (pe_callB call_isi (by rfl) T.isinstance (by decide +kernel) (pa_cons (pv 0) (pa_cons (pe_bltn (v := .ty "bool") (u := .type "bool") (by rfl) T.bool (by decide +kernel) rfl) pa_nil)))) (pw_or1 (pt_not (pt_val (pe_callB call_isi (by rfl) T.isinstance (by decide +kernel) (pa_cons (pv 0) (pa_cons (pe_bltn (v := .ty "int") (u := .type "int") (by rfl) T.int (by decide +kernel) rfl) pa_nil)))))))) (pss_one (ps_ret pe_bl)) pss_nil)
      (pss_one (ps_ret (pe_chain op_le op_le (pv 1) (pv 0) (pv 2))))), ?_⟩
    cases hd with
    | int v =>
      refine ⟨_, rfl, _, _, _, _, false, rfl, ClsV.ty _, .base (.int _), kit_ty (by decide +kernel), _, rfl, ?_⟩
      refine iteF ⟨_, rfl, _, _, _, _, true, rfl, ClsV.ty _, .base (.int _), kit_ty (by decide +kernel), _, rfl, ?_⟩
      refine iteF ?_
      refine ⟨_, rfl, _, rfl, _, _, rfl, rfl, _, rfl, ?_⟩
      unfold isIntD inR at k
      simp only at k
      cases hd : decide (l ≤ v) with
      | false =>
        rw [hd] at k
        exact iteF k
      | true =>
        rw [hd] at k
        exact iteT ⟨_, rfl, _, _, rfl, rfl, k⟩
    | bl b =>
      refine ⟨_, rfl, _, _, _, _, true, rfl, ClsV.ty _, .base (.bl _), kit_ty (by decide +kernel), _, rfl, ?_⟩
      exact iteT k
    | non =>
      refine ⟨_, rfl, _, _, _, _, false, rfl, ClsV.ty _, .base .non, kit_ty (by decide +kernel), _, rfl, ?_⟩
      refine iteF ⟨_, rfl, _, _, _, _, false, rfl, ClsV.ty _, .base .non, kit_ty (by decide +kernel), _, rfl, ?_⟩
      exact iteT k
    | str x =>
      refine ⟨_, rfl, _, _, _, _, false, rfl, ClsV.ty _, .base (.str _), kit_ty (by decide +kernel), _, rfl, ?_⟩
      refine iteF ⟨_, rfl, _, _, _, _, false, rfl, ClsV.ty _, .base (.str _), kit_ty (by decide +kernel), _, rfl, ?_⟩
      exact iteT k
    | lst hS _ =>
      refine ⟨_, rfl, _, _, _, _, false, rfl, ClsV.ty _, tyx_lst hS, kit_ty (by decide +kernel), _, rfl, ?_⟩
      refine iteF ⟨_, rfl, _, _, _, _, false, rfl, ClsV.ty _, tyx_lst hS, kit_ty (by decide +kernel), _, rfl, ?_⟩
      exact iteT k
    | tup hS _ =>
      refine ⟨_, rfl, _, _, _, _, false, rfl, ClsV.ty _, tyx_tup hS, kit_ty (by decide +kernel), _, rfl, ?_⟩
      refine iteF ⟨_, rfl, _, _, _, _, false, rfl, ClsV.ty _, tyx_tup hS, kit_ty (by decide +kernel), _, rfl, ?_⟩
      exact iteT k
abbrev s_is_heaps : Stmt := top 18
theorem sc_is_heaps : FnScope ["value", "heap"] ["value"] (defScope s_is_heaps) := ⟨rfl, rfl, rfl, by decide +kernel, rfl, by decide +kernel, by decide +kernel⟩
theorem ok_is_heaps {f : Addr} {fd : FuncData} (F : Fun K "is_heaps" "is_heaps" s_is_heaps f fd) (T : Tp mg) (C_is_integer : Cal P w K mg base CX0 1 "is_integer" ["value", "least", "greatest"] (spIsInt K)) : FnOk P w K mg base CX0 2 f fd ["value"] (spIsHeaps K) := by
  refine F.ok sc_is_heaps (fun vs H Q E h => ?_) (fun cdv A outer s H vs Q E hr h => ?_)
  · obtain ⟨v, d, rfl, _⟩ := h
    rfl
  · obtain ⟨v, d, rfl, hd, k⟩ := h
    refine ⟨_, (pss_cons (ps_if (PW.pt (pw_or (pt_not (pt_val (pe_callB call_isi (by rfl) T.isinstance (by decide +kernel) (pa_cons (pv 0) (pa_cons (pe_bltn (v := .ty "tuple") (u := .type "tuple") (by rfl) T.tuple (by decide +kernel) rfl) pa_nil))))) (pw_or1 (pt_not (pt_chain op_le op_le (pe_gint rfl T.c_FEWEST_HEAPS) (pe_callB call_len_seq (by rfl) T.len PySem.boot_len (pa_cons (pv 0) pa_nil)) (pe_gint rfl T.c_MOST_HEAPS)))))) (pss_one (ps_ret pe_bl)) pss_nil)
      (pss_one (ps_ret (pe_and (pe_callB (cr_all rfl) (by rfl) T.all (by decide +kernel) (pa_cons (pe_lc (own := [("heap", 1)]) (g := gName 1) (by rfl) sc_is_heaps.nd (pi_tup (pv 0)) (blkOk_by (own := [("heap", 1)]) (N := ["value", "heap"]) (sc := defScope s_is_heaps) (by decide +kernel)) (fun _ _ _ _ _ => pg_name (i := 1) sc_is_heaps.nd rfl (Or.inl rfl)) (fun _ _ _ _ _ => pts_nil) (fun _ _ _ _ _ => (pe_cal C_is_integer hr rfl pass0 (pa_cons (pv 1) (pa_cons pe_int (pa_cons (pe_gint rfl T.c_GREATEST) pa_nil)))))) pa_nil)) (pe_one (pe_cmpR op_gt (pe_callB (cr_sumT rfl) (by rfl) T.sum (by decide +kernel) (pa_cons (pv 0) pa_nil)) pe_int (nomark _))))))), ?_⟩
    cases hd with
    | int v => exact ⟨_, rfl, _, _, _, _, false, rfl, ClsV.ty _, .base (.int _), kit_ty (by decide +kernel), _, rfl, iteT (k H (Same.refl _))⟩
    | bl b => exact ⟨_, rfl, _, _, _, _, false, rfl, ClsV.ty _, .base (.bl _), kit_ty (by decide +kernel), _, rfl, iteT (k H (Same.refl _))⟩
    | non => exact ⟨_, rfl, _, _, _, _, false, rfl, ClsV.ty _, .base .non, kit_ty (by decide +kernel), _, rfl, iteT (k H (Same.refl _))⟩
    | str x => exact ⟨_, rfl, _, _, _, _, false, rfl, ClsV.ty _, .base (.str _), kit_ty (by decide +kernel), _, rfl, iteT (k H (Same.refl _))⟩
    | lst hS _ => exact ⟨_, rfl, _, _, _, _, false, rfl, ClsV.ty _, tyx_lst hS, kit_ty (by decide +kernel), _, rfl, iteT (k H (Same.refl _))⟩
    | @tup t xs ds hS hA =>
    refine ⟨_, rfl, _, _, _, _, true, rfl, ClsV.ty _, tyx_tup hS, kit_ty (by decide +kernel), _, rfl, ?_⟩
    refine iteF ?_
    refine ⟨_, rfl, t, _, rfl, .inr hS, _, _, rfl, rfl, _, rfl, ?_⟩
    have hxl := dpall_len hA
    unfold hpsD at k
    simp only at k
    rw [← hxl] at k
    cases h2 : decide (2 ≤ xs.length) with
    | false =>
      have z : decide ((2 : Int) ≤ (xs.length : Int)) = false := decide_eq_false fun z => (of_decide_eq_false h2) (by omega)
      rw [z]
      refine iteF ⟨_, rfl, iteT ?_⟩
      rw [h2] at k
      exact k H (Same.refl _)
    | true =>
      have z : decide ((2 : Int) ≤ (xs.length : Int)) = true := decide_eq_true (by have := of_decide_eq_true h2; omega)
      rw [z]
      refine iteT ⟨_, _, rfl, rfl, _, rfl, ?_⟩
      cases h6 : decide (xs.length ≤ 6) with
      | false =>
        have z : decide ((xs.length : Int) ≤ 6) = false := decide_eq_false fun z => (of_decide_eq_false h6) (by omega)
        rw [z]
        refine iteT ?_
        rw [h2, h6] at k
        exact k H (Same.refl _)
      | true =>
        have z : decide ((xs.length : Int) ≤ 6) = true := decide_eq_true (by have := of_decide_eq_true h6; omega)
        rw [z]
        refine iteF ?_
        rw [h2, h6] at k
        have hx6 := of_decide_eq_true h6
        refine ⟨_, rfl, t, rfl, ⟨_, hS⟩, fun D hD => lc_tup (K := K) (a := t) (xs := xs) (fun i H1 => H1 D = some (.lst (((ds.take i).map (isIntD 0 (10 ^ 30))).map V.bl)) ∧ Same H H1) ⟨upd_same, Same.new hD⟩ (fun i H1 _ q => Same.tup q.2 hS) ?_ ?_⟩
        · rintro i x H1 hi ⟨hL, s1⟩
          obtain ⟨dx, hdx, hx⟩ := dpall_get hA hi
          refine ⟨rfl, _, rfl, x, dx, 0, 10 ^ 30, rfl, dp_same s1 hx, _, hL, ?_, ?_⟩
          · rw [List.length_map, List.length_map, List.length_take, sizeLine_eq]
            omega
          · refine ⟨?_, same_upd s1 hD⟩
            rw [upd_same, List.take_add_one, hdx]
            simp
        · rintro H1 ⟨hL, s1⟩
          rw [hxl, List.take_length] at hL
          refine ⟨D, _, rfl, SqL.of hL, _, rfl, ?_⟩
          cases ha : (ds.map (isIntD 0 (10 ^ 30))).all id with
          | false =>
            rw [ha] at k
            exact iteF (k _ s1)
          | true =>
            rw [ha] at k
            obtain ⟨e1, _⟩ := dpall_isint hA ha
            rw [e1] at hS
            exact iteT ⟨_, rfl, t, _, rfl, Same.tup s1 hS, _, _, rfl, rfl, k _ s1⟩
abbrev s_check_heaps : Stmt := top 19
theorem sc_check_heaps : FnScope ["heaps"] ["heaps"] (defScope s_check_heaps) := ⟨rfl, rfl, rfl, by decide +kernel, rfl, by decide +kernel, by decide +kernel⟩
theorem ok_check_heaps {f C : Addr} {fd : FuncData} (F : Fun K "check_heaps" "check_heaps" s_check_heaps f fd) (T : Tp mg) (B : NilX P K mg "BadHeaps" C) (C_is_heaps : Cal P w K mg base CX0 2 "is_heaps" ["value"] (spIsHeaps K)) : FnOk P w K mg base (L2.CX P w) 3 f fd ["heaps"] (spChkHeapsD K C) := by
  refine F.okX sc_check_heaps (fun vs H Q E h => ?_) (fun cdv A outer s H vs Q E hr h => ?_)
  · obtain ⟨v, d, rfl, _⟩ := h
    rfl
  · obtain ⟨v, d, rfl, hd, k1, k2⟩ := h
    refine ⟨_, (pss_one (ps_if (pt_not (pt_val (pe_cal C_is_heaps hr rfl pass0 (pa_cons (pv 0) pa_nil)))) (pss_one (ps_raise rfl (takes_of rfl rfl rfl rfl) (pmk_nil B (hr.mono (by decide : 1 ≤ 2)) rfl))) pss_nil)), ?_⟩
    refine ⟨_, rfl, v, d, rfl, hd, fun H1 s1 => ⟨_, rfl, ?_⟩⟩
    cases hg : hpsD d with
    | true => exact iteF (k1 hg _ s1)
    | false => exact iteT (k2 hg _ s1)
end
end Hd
set_option maxHeartbeats 4000000
/-! Steps and what they do. -/
namespace Hd
open PySem PySem.Spec PyProof.Rows L2
/-- a step's tuple at its address, its two numbers -/
abbrev Srow := Addr × Nat × Nat
def StAt (K : PySem.W.Frag) (H : Hp) (n : Nat) (p : Srow) : Prop := SqT K H p.1 [.int (p.2.1 : Int), .int (p.2.2 : Int)] ∧ p.2.1 < n ∧ p.2.2 < n ∧ p.2.1 ≠ p.2.2
/-- a list at l of steps' tuples -/
structure PrL (K : PySem.W.Frag) (H : Hp) (l : Addr) (n : Nat) (ps : List Srow) : Prop where
  ls : H l = some (.lst (ps.map fun p => V.ref p.1))
  st : ∀ p ∈ ps, StAt K H n p
theorem StAt.same {K : PySem.W.Frag} {H H' : Hp} {n : Nat} {p : Srow} (e : Same H H') (h : StAt K H n p) : StAt K H' n p := ⟨Same.tup e h.1, h.2⟩
theorem PrL.same {K : PySem.W.Frag} {H H' : Hp} {t : Addr} {n : Nat} {ps : List Srow} (e : Same H H') (h : PrL K H t n ps) : PrL K H' t n ps := ⟨e _ _ h.ls, fun p hp => (h.st p hp).same e⟩
theorem PrL.stp {K : PySem.W.Frag} {H : Hp} {t : Addr} {n : Nat} {ps : List Srow} (h : PrL K H t n ps) : Stp n (ps.map (·.2)) := fun p hp => by
  obtain ⟨z, hz, rfl⟩ := List.mem_map.mp hp
  exact (h.st z hz).2
/-- a tuple stays where a list is written -/
theorem tup_at {K : PySem.W.Frag} {H : Hp} {l a : Addr} {xs ys : List V} {o : HO} (hl : H l = some (.lst ys)) (h : SqT K H a xs) : SqT K (upd H l o) a xs := by
  rcases h with (h | ⟨u, h⟩) | h
  · exact .inl (.inl (by rw [upd_ne (ne_of h hl (by intro z; cases z))]; exact h))
  · exact .inl (.inr ⟨u, by rw [upd_ne (ne_of h hl (by intro z; cases z))]; exact h⟩)
  · exact .inr h
theorem StAt.at_ {K : PySem.W.Frag} {H : Hp} {l : Addr} {ys : List V} {o : HO} {n : Nat} {p : Srow} (hl : H l = some (.lst ys)) (h : StAt K H n p) : StAt K (upd H l o) n p := ⟨tup_at hl h.1, h.2⟩
/-- .. more of them -/
theorem PrL.more {K : PySem.W.Frag} {H : Hp} {l : Addr} {n : Nat} {ps qs : List Srow} (h : PrL K H l n ps) (hq : ∀ p ∈ qs, StAt K H n p) : PrL K (upd H l (.lst (ps.map (fun p => V.ref p.1) ++ qs.map fun p => V.ref p.1))) l n (ps ++ qs) :=
  ⟨by rw [upd_same, List.map_append], fun p hp => (List.mem_append.mp hp).elim (fun z => (h.st p z).at_ h.ls) fun z => (hq p z).at_ h.ls⟩
def spShifted (K : PySem.W.Frag) : Sp := fun vs H Q _ => ∃ (t u : Addr) (ns : List Int) (i j : Nat) (m : Int), vs = [.ref t, .ref u, .int m] ∧ SqT K H t (ns.map V.int) ∧ SqT K H u [.int (i : Int), .int (j : Int)] ∧ i < ns.length ∧ j < ns.length ∧ i ≠ j ∧
  ∀ (p : Addr) (H' : Hp), Same H H' → H p = none → H' p = some (.tup ((shf ns i j m).map V.int)) → Q (.ref p) H'
def spBehind (K : PySem.W.Frag) : Sp := fun vs H Q _ => ∃ (t u : Addr) (ns : List Int) (i j : Nat), vs = [.ref t, .ref u] ∧ SqT K H t (ns.map V.int) ∧ SqT K H u [.int (i : Int), .int (j : Int)] ∧ i < ns.length ∧ j < ns.length ∧ i ≠ j ∧
  ∀ (p : Addr) (H' : Hp), Same H H' → H p = none → H' p = some (.tup ((mv ns i j).map V.int)) → Q (.ref p) H'
def spShiftedZ (K : PySem.W.Frag) : Sp := fun vs H Q _ => ∃ (t u : Addr) (ns : List Int) (i j : Nat) (m : Int), vs = [.ref t, .ref u, .int m] ∧ SqT K H t (ns.map V.int) ∧ SqT K H u [.int (i : Int), .int (j : Int)] ∧ i < ns.length ∧ j < ns.length ∧ i ≠ j ∧
  ∀ (p : Addr) (H' : Hp), Same H H' → H p = none → TupZ H' p ((shf ns i j m).map V.int) → Q (.ref p) H'
def spBehindZ (K : PySem.W.Frag) : Sp := fun vs H Q _ => ∃ (t u : Addr) (ns : List Int) (i j : Nat), vs = [.ref t, .ref u] ∧ SqT K H t (ns.map V.int) ∧ SqT K H u [.int (i : Int), .int (j : Int)] ∧ i < ns.length ∧ j < ns.length ∧ i ≠ j ∧
  ∀ (p : Addr) (H' : Hp), Same H H' → H p = none → TupZ H' p ((mv ns i j).map V.int) → Q (.ref p) H'
theorem thaw_shifted {K : PySem.W.Frag} {vs : List V} {H : Hp} {Q : VK} {E : XK} (h : spShifted K vs H Q E) : spShiftedZ K vs H (fun v H' => ∃ a o xs, v = .ref a ∧ H a = none ∧ H' a = some (.frz o (.tup xs)) ∧ Q v (upd H' a (.tup xs))) E := by
  obtain ⟨t, u, ns, i, j, m, rfl, hS, hU, hi, hj, hij, k⟩ := h
  exact ⟨t, u, ns, i, j, m, rfl, hS, hU, hi, hj, hij, fun p H' s hp ⟨o, _, hz⟩ => ⟨p, o, _, rfl, hp, hz, k p _ (same_thaw s hp) hp upd_same⟩⟩
theorem thaw_behind {K : PySem.W.Frag} {vs : List V} {H : Hp} {Q : VK} {E : XK} (h : spBehind K vs H Q E) : spBehindZ K vs H (fun v H' => ∃ a o xs, v = .ref a ∧ H a = none ∧ H' a = some (.frz o (.tup xs)) ∧ Q v (upd H' a (.tup xs))) E := by
  obtain ⟨t, u, ns, i, j, rfl, hS, hU, hi, hj, hij, k⟩ := h
  exact ⟨t, u, ns, i, j, rfl, hS, hU, hi, hj, hij, fun p H' s hp ⟨o, _, hz⟩ => ⟨p, o, _, rfl, hp, hz, k p _ (same_thaw s hp) hp upd_same⟩⟩
def spBehindAll (K : PySem.W.Frag) : Sp := fun vs H Q _ => ∃ (t u : Addr) (ns m : List Int) (ps : List Srow), vs = [.ref t, .ref u] ∧ SqT K H t (ns.map V.int) ∧ PrL K H u ns.length ps ∧ run ns (ps.map (·.2)) = some m ∧
  ∀ (p : Addr) (H' : Hp), Same H H' → SqT K H' p (m.map V.int) → Q (.ref p) H'
def spCan (K : PySem.W.Frag) : Sp := fun vs H Q _ => ∃ (t u : Addr) (ns : List Int) (i j : Nat), vs = [.ref t, .ref u] ∧ SqT K H t (ns.map V.int) ∧ SqT K H u [.int (i : Int), .int (j : Int)] ∧ i < ns.length ∧ j < ns.length ∧ Q (.bl (can ns i j)) H
def spIsPair (K : PySem.W.Frag) : Sp := fun vs H Q _ => ∃ (v : V) (d : PyData) (n : Int), vs = [.int n, v] ∧ Dp K H v d ∧ Q (.bl (prD n d)) H
def spChkStep (K : PySem.W.Frag) (C : Addr) : Sp := fun vs H Q E => ∃ (t : Addr) (v : V) (d : PyData) (ns : List Int), vs = [.ref t, v] ∧ SqT K H t (ns.map V.int) ∧ Dp K H v d ∧ (stD ns d = true → Q .non H) ∧ (stD ns d = false → E (.ref C) none H)
def spPairs (K : PySem.W.Frag) : Sp := fun vs H Q _ => ∃ n : Nat, vs = [.int (n : Int)] ∧ n ≤ 6 ∧ ∀ (l : Addr) (qs : List (Addr × Nat × Nat)) (H' : Hp), Same H H' → H l = none → PrL K H' l n qs → qs.map (·.2) = prs n → Q (.ref l) H'
def spSteps (K : PySem.W.Frag) : Sp := fun vs H Q _ => ∃ (t : Addr) (ns : List Int), vs = [.ref t] ∧ SqT K H t (ns.map V.int) ∧ ns.length ≤ 6 ∧ ∀ (l : Addr) (qs : List (Addr × Nat × Nat)) (H' : Hp), Same H H' → H l = none → PrL K H' l ns.length qs → qs.map (·.2) = due ns → Q (.ref l) H'
/-- a list at l of heaps, each a tuple -/
abbrev Hrow := Addr × List Int
structure HpL (K : PySem.W.Frag) (H : Hp) (l : Addr) (hs : List Hrow) : Prop where
  ls : H l = some (.lst (hs.map fun p => V.ref p.1))
  st : ∀ p ∈ hs, SqT K H p.1 (p.2.map V.int)
theorem HpL.same {K : PySem.W.Frag} {H H' : Hp} {t : Addr} {hs : List Hrow} (e : Same H H') (h : HpL K H t hs) : HpL K H' t hs := ⟨e _ _ h.ls, fun p hp => Same.tup e (h.st p hp)⟩
def spAllBehind (K : PySem.W.Frag) : Sp := fun vs H Q _ => ∃ (t : Addr) (ns : List Int), vs = [.ref t] ∧ SqT K H t (ns.map V.int) ∧ ns.length ≤ 6 ∧ ∀ (l : Addr) (hs : List Hrow) (H' : Hp), Same H H' → H l = none → HpL K H' l hs → hs.map (·.2) = (due ns).map (fun q => mv ns q.1 q.2) → (∀ p ∈ hs, H p.1 = none ∧ H' p.1 = some (.tup (p.2.map V.int))) → Q (.ref l) H'
/-- a plan at t: each step's tuple, its two numbers -/
structure PlanAt (K : PySem.W.Frag) (H : Hp) (t : Addr) (n : Nat) (ps : List Srow) : Prop where
  tp : SqT K H t (ps.map fun p => V.ref p.1)
  st : ∀ p ∈ ps, StAt K H n p
theorem PlanAt.same {K : PySem.W.Frag} {H H' : Hp} {t : Addr} {n : Nat} {ps : List Srow} (e : Same H H') (h : PlanAt K H t n ps) : PlanAt K H' t n ps := ⟨Same.tup e h.tp, fun p hp => (h.st p hp).same e⟩
theorem dpall_P {K : PySem.W.Frag} {H : Hp} {n : Nat} : ∀ ps : List Srow, (∀ p ∈ ps, StAt K H n p) → DpAll K H (ps.map fun p => V.ref p.1) ((ps.map (·.2)).map dS)
  | [], _ => .nil
  | p :: ps, h => .cons (dp_S (h p (List.mem_cons_self ..)).1) (dpall_P ps fun q hq => h q (List.mem_cons_of_mem _ hq))
theorem PlanAt.dp {K : PySem.W.Frag} {H : Hp} {t : Addr} {n : Nat} {ps : List Srow} (h : PlanAt K H t n ps) : Dp K H (.ref t) (dP (ps.map (·.2))) := .tup h.tp (dpall_P ps h.st)
theorem PrL.dp {K : PySem.W.Frag} {H : Hp} {t : Addr} {n : Nat} {ps : List Srow} (h : PrL K H t n ps) : Dp K H (.ref t) (.list ((ps.map (·.2)).map dS)) := .lst (SqL.of h.ls) (dpall_P ps h.st)
def spChkPlan (K : PySem.W.Frag) : Sp := fun vs H Q _ => ∃ (t : Addr) (n : Nat) (ps : List Srow), vs = [.int (n : Int), .ref t] ∧ PlanAt K H t n ps ∧ ps.length ≤ 20000 ∧ ∀ H', Same H H' → Q .non H'
theorem dec_int (a b : Int) : decide (V.int a = V.int b) = decide (a = b) := by
  by_cases z : a = b
  · subst z
    rw [decide_eq_true rfl, decide_eq_true rfl]
  · rw [decide_eq_false z, decide_eq_false fun q => z (V.int.inj q)]
/-- a loop over range(n), whatever its body -/
theorem over_range {n : Nat} {H0 : Hp} {Qd : Hp → Prop} {body : V → Hp → (Hp → Prop) → Prop} (Pv : Nat → Hp → Prop) (h0 : Pv 0 H0) (hs : ∀ i H, i < n → Pv i H → body (.int (0 + (i : Int))) H (Pv (i + 1))) (hd : ∀ H, Pv n H → Qd H) :
    ∃ W : Nat → Nat → Hp → Prop, (∃ m, W 0 m H0) ∧ ∀ i m H, W i m H → ((Itr 0 n).stop i H ∧ Qd H) ∨ ((Itr 0 n).go i H ∧ ∃ Nx : Hp → Prop, (∀ H', Nx H' → ∃ m', m' < m ∧ W (i + 1) m' H') ∧ ∀ x H', (Itr 0 n).yld i H x H' → body x H' Nx) := by
  refine ⟨fun i m H => m + i = n ∧ Pv i H, ⟨n, rfl, h0⟩, fun i m H ⟨e, p⟩ => ?_⟩
  by_cases lt : i < n
  · refine .inr ⟨lt, Pv (i + 1), fun H' p' => ⟨m - 1, by omega, by omega, p'⟩, fun x H' y => ?_⟩
    rw [y.1, y.2]
    exact hs i H lt p
  · have e2 : i = n := by omega
    rw [e2] at p ⊢
    exact .inl ⟨Nat.le_refl n, hd H p⟩
def dbl (x : Int) : Bool := decide (0 < x) && decide (x % 2 = 0)
def erl (ns : List Int) (i j : Nat) : List Int := shf ns i j (-(ns.getD j 0 / 2))
def spDbl : Sp := fun vs H Q _ => ∃ x : Int, vs = [.int x] ∧ Q (.bl (dbl x)) H
def spErl (K : PySem.W.Frag) : Sp := fun vs H Q _ => ∃ (t u : Addr) (ns : List Int) (i j : Nat), vs = [.ref t, .ref u] ∧ SqT K H t (ns.map V.int) ∧ SqT K H u [.int (i : Int), .int (j : Int)] ∧ i < ns.length ∧ j < ns.length ∧ i ≠ j ∧
  ∀ (p : Addr) (H' : Hp), Same H H' → H p = none → H' p = some (.tup ((erl ns i j).map V.int)) → Q (.ref p) H'
section
variable {P : Program} {w : World} {K : PySem.W.Frag} {mg : Str → Option Value} {base : Heap}
abbrev s_can_be_made : Stmt := top 8
theorem sc_can_be_made : FnScope ["heaps", "step", "one", "other"] ["heaps", "step"] (defScope s_can_be_made) := ⟨rfl, rfl, rfl, by decide +kernel, rfl, by decide +kernel, by decide +kernel⟩
theorem ok_can_be_made {f : Addr} {fd : FuncData} (F : Fun K "can_be_made" "can_be_made" s_can_be_made f fd) : FnOk P w K mg base CX0 1 f fd ["heaps", "step"] (spCan K) := by
  refine F.ok sc_can_be_made (fun vs H Q E h => ?_) (fun cdv A outer s H vs Q E hr h => ?_)
  · obtain ⟨t, u, ns, i, j, rfl, _⟩ := h
    rfl
  · obtain ⟨t, u, ns, i, j, rfl, hS, hU, hi, hj, k⟩ := h
    refine ⟨_, (pss_cons (ps_asg (pv 1) (pg_tup rfl (pgs_cons (pg_name (i := 2) sc_can_be_made.nd rfl (Or.inl rfl)) (pgs_cons (pg_name (i := 3) sc_can_be_made.nd rfl (Or.inl rfl)) pgs_nil))))
      (pss_one (ps_ret (pe_chain op_lt op_le pe_int (pe_ix ix_tup (pv 0) (pv 3) (fun _ _ => rfl)) (pe_ix ix_tup (pv 0) (pv 2) (fun _ _ => rfl)))))), ?_⟩
    refine ⟨_, rfl, u, _, rfl, hU, rfl, _, _, rfl, _, _, rfl, rfl, ?_⟩
    refine ⟨_, rfl, _, rfl, t, _, _, _, rfl, rfl, hS, at_of rfl (getD_at hj), _, _, rfl, rfl, _, rfl, ?_⟩
    unfold can at k
    cases hd : decide (0 < ns.getD j 0) with
    | false =>
      rw [hd] at k
      exact iteF k
    | true =>
      rw [hd] at k
      exact iteT ⟨_, rfl, _, rfl, t, _, _, _, rfl, rfl, hS, at_of rfl (getD_at hi), _, _, rfl, rfl, k⟩
abbrev s_shifted : Stmt := top 10
theorem sc_shifted : FnScope ["heaps", "step", "many", "one", "other", "stand"] ["heaps", "step", "many"] (defScope s_shifted) := ⟨rfl, rfl, rfl, by decide +kernel, rfl, by decide +kernel, by decide +kernel⟩
theorem ok_shifted {f : Addr} {fd : FuncData} (F : Fun K "shifted" "shifted" s_shifted f fd) (T : Tp mg) : FnOk P w K mg base CX0 1 f fd ["heaps", "step", "many"] (spShiftedZ K) := by
  refine F.ok sc_shifted (fun vs H Q E h => ?_) (fun cdv A outer s H vs Q E hr h => ?_)
  · obtain ⟨t, u, ns, i, j, m, rfl, _⟩ := h
    rfl
  · obtain ⟨t, u, ns, i, j, m, rfl, hS, hU, hi, hj, hij, k⟩ := h
    refine ⟨_, (pss_cons (ps_asg (pv 1) (pg_tup rfl (pgs_cons (pg_name (i := 3) sc_shifted.nd rfl (Or.inl rfl)) (pgs_cons (pg_name (i := 4) sc_shifted.nd rfl (Or.inl rfl)) pgs_nil))))
      (pss_cons (ps_set (i := 5) sc_shifted.nd rfl (Or.inl rfl) (pe_callTy call_list_of (by rfl) T.list (by decide +kernel) (pa_cons (pv 0) pa_nil)))
      (pss_cons (ps_augS (pv 5) (pv 3) pget_list (pv 2) ip_sub set_list)
      (pss_cons (ps_augS (pv 5) (pv 4) pget_list (pv 2) ip_add set_list)
      (pss_one (ps_ret (pe_callTy call_tupleZ (by rfl) T.tuple (by decide +kernel) (pa_cons (pv 5) pa_nil)))))))), ?_⟩
    refine ⟨_, rfl, u, _, rfl, hU, rfl, _, _, rfl, _, _, rfl, rfl, ?_⟩
    refine ⟨_, rfl, t, _, rfl, .inr hS, fun l hl => ?_⟩
    refine ⟨_, rfl, _, rfl, l, _, _, _, rfl, rfl, SqL.of upd_same, by omega, (by rw [Int.toNat_natCast]; exact getD_at hi), _, rfl, _, _, rfl, rfl, l, _, _, i, rfl, rfl, upd_same, (by rw [List.length_map]; exact ixN_nat hi), ?_⟩
    rw [upd_upd]
    refine ⟨_, rfl, _, rfl, l, _, _, _, rfl, rfl, SqL.of upd_same, by omega, (by rw [Int.toNat_natCast, List.getElem?_set_ne hij]; exact getD_at hj), _, rfl, _, _, rfl, rfl, l, _, _, j, rfl, rfl, upd_same, (by rw [List.length_set, List.length_map]; exact ixN_nat hj), ?_⟩
    rw [upd_upd]
    refine ⟨_, rfl, l, _, rfl, SqL.of upd_same, fun p o hp ho => ?_⟩
    have hpl : p ≠ l := fun e => by
      rw [e, upd_same] at hp
      cases hp
    have hp0 : H p = none := by
      rw [upd_ne hpl] at hp
      exact hp
    refine k p _ (same_upd (Same.new hl) hp0) hp0 ⟨o, ho, ?_⟩
    rw [upd_same]
    unfold shf
    rw [List.map_set, List.map_set]
abbrev s_behind : Stmt := top 11
theorem sc_behind : FnScope ["heaps", "step"] ["heaps", "step"] (defScope s_behind) := ⟨rfl, rfl, rfl, by decide +kernel, rfl, by decide +kernel, by decide +kernel⟩
theorem ok_behind {f : Addr} {fd : FuncData} (F : Fun K "behind" "behind" s_behind f fd) (C_shifted : Cal P w K mg base CX0 1 "shifted" ["heaps", "step", "many"] (spShiftedZ K)) : FnOk P w K mg base CX0 2 f fd ["heaps", "step"] (spBehindZ K) := by
  refine F.ok sc_behind (fun vs H Q E h => ?_) (fun cdv A outer s H vs Q E hr h => ?_)
  · obtain ⟨t, u, ns, i, j, rfl, _⟩ := h
    rfl
  · obtain ⟨t, u, ns, i, j, rfl, hS, hU, hi, hj, hij, k⟩ := h
    refine ⟨_, (pss_one (ps_ret (pe_cal C_shifted hr rfl pass0 (pa_cons (pv 0) (pa_cons (pv 1) (pa_cons (pe_ix ix_tup (pv 0) (pe_ix ix_tup (pv 1) pe_int (fun _ _ => rfl)) (fun _ _ => rfl)) pa_nil)))))), ?_⟩
    exact ⟨_, rfl, _, rfl, _, rfl, _, rfl, u, _, _, _, rfl, rfl, hU, rfl, t, _, _, _, rfl, rfl, hS, at_of rfl (getD_at hj), t, u, ns, i, j, _, rfl, hS, hU, hi, hj, hij, k⟩
abbrev s_pairs_of : Stmt := top 7
theorem sc_pairs_of : FnScope ["many", "one", "other"] ["many"] (defScope s_pairs_of) := ⟨rfl, rfl, rfl, by decide +kernel, rfl, by decide +kernel, by decide +kernel⟩
theorem ok_pairs_of {f : Addr} {fd : FuncData} (F : Fun K "pairs_of" "pairs_of" s_pairs_of f fd) (T : Tp mg) : FnOk P w K mg base CX0 1 f fd ["many"] (spPairs K) := by
  refine F.ok sc_pairs_of (fun vs H Q E h => ?_) (fun cdv A outer s H vs Q E hr h => ?_)
  · obtain ⟨n, rfl, _⟩ := h
    rfl
  · obtain ⟨n, rfl, hn, k⟩ := h
    refine ⟨_, (pss_one (ps_ret (pe_lc2 (own := [("one", 1), ("other", 2)]) (vs1 := [2]) (g := gName 1) (g1 := gName 2) (by rfl) sc_pairs_of.nd (pi_range1 rfl T.range (pa_cons (pv 0) pa_nil)) (blkOk_by (own := [("one", 1), ("other", 2)]) (N := ["many", "one", "other"]) (sc := defScope s_pairs_of) (by decide +kernel)) (by decide)
      (fun _ _ _ _ _ => pg_name (i := 1) sc_pairs_of.nd rfl (Or.inl rfl)) (fun _ _ _ _ _ => pts_nil) (fun _ _ _ _ _ => pi_range1 rfl T.range (pa_cons (pv 0) pa_nil)) (fun _ _ _ _ _ => pg_name (i := 2) sc_pairs_of.nd rfl (Or.inl rfl))
      (fun _ _ _ _ _ => pts_one (pt_cmpR op_ne (pv 1) (pv 2) (nomark _))) (fun _ _ _ _ _ => pe_tup (pa_cons (pv 1) (pa_cons (pv 2) pa_nil)))))), ?_⟩
    refine ⟨_, rfl, _, rfl, by omega, by omega, ?_⟩
    rw [Int.toNat_natCast]
    intro D hD
    refine over_range (n := n) (fun i H1 => ∃ qs : List (Addr × Nat × Nat), Same H H1 ∧ PrL K H1 D n qs ∧ qs.map (·.2) = prsTo n i) ⟨[], Same.new hD, ⟨upd_same, fun p hp => (nomatch hp)⟩, rfl⟩ ?_ ?_
    · rintro i H1 hi ⟨qs, s1, hP, hq⟩
      refine ⟨rfl, _, rfl, _, rfl, by omega, by omega, ?_⟩
      rw [Int.toNat_natCast]
      refine over_range (n := n) (fun j H2 => ∃ rs : List (Addr × Nat × Nat), Same H H2 ∧ PrL K H2 D n rs ∧ rs.map (·.2) = prsTo n i ++ rowTo i j) ⟨qs, s1, hP, by rw [hq]; exact (List.append_nil _).symm⟩ ?_ ?_
      · rintro j H2 hj ⟨rs, s2, hR, hr2⟩
        rw [Int.zero_add, Int.zero_add]
        refine ⟨rfl, _, rfl, _, rfl, rfl, _, rfl, ?_⟩
        rw [dec_int]
        have hrl : rs.length ≤ 36 + 6 := by
          have e := congrArg List.length hr2
          rw [List.length_map, List.length_append] at e
          have e2 := prsTo_short hn i (by omega)
          have e3 : (rowTo i j).length ≤ j := by
            unfold rowTo
            rw [List.length_map]
            exact Nat.le_trans (List.length_filter_le _ _) (by rw [List.length_range]; exact Nat.le_refl _)
          omega
        by_cases hji : j = i
        · rw [decide_eq_true (show (i : Int) = (j : Int) by omega)]
          refine iteF ⟨rs, s2, hR, ?_⟩
          rw [rowTo_succ, if_pos hji, List.append_nil]
          exact hr2
        · rw [decide_eq_false (show ¬ (i : Int) = (j : Int) by omega)]
          refine iteT ⟨_, rfl, _, rfl, by show 2 ≤ sizeLine; decide, fun TT hT => ?_⟩
          have s3 : Same H2 (upd H2 TT (.tup [.int (i : Int), .int (j : Int)])) := Same.new hT
          have nTD : TT ≠ D := (ne_of_none hR.ls hT).symm
          refine ⟨_, s3 _ _ hR.ls, ?_, rs ++ [(TT, i, j)], same_upd (s2.trans s3) hD, ⟨?_, fun p hp => ?_⟩, ?_⟩
          · rw [List.length_map, sizeLine_eq]
            omega
          · rw [upd_same, List.map_append]
            rfl
          · rcases List.mem_append.mp hp with hp | hp
            · obtain ⟨a, b⟩ := hR.st p hp
              have a3 := Same.tup s3 a
              refine ⟨?_, b⟩
              rcases a3 with (a3 | ⟨o, a3⟩) | a3
              · exact .inl (.inl (by rw [upd_ne (ne_of a3 (s3 _ _ hR.ls) (by intro z; cases z))]; exact a3))
              · exact .inl (.inr ⟨o, by rw [upd_ne (ne_of a3 (s3 _ _ hR.ls) (by intro z; cases z))]; exact a3⟩)
              · exact .inr a3
            · have ep : p = (TT, i, j) := by simpa using hp
              subst ep
              exact ⟨SqT.of (by rw [upd_ne nTD, upd_same]), hi, hj, fun z => hji z.symm⟩
          · rw [List.map_append, hr2, rowTo_succ, if_neg hji, List.append_assoc]
            rfl
      · rintro H2 ⟨rs, s2, hR, hr2⟩
        refine ⟨rs, s2, hR, ?_⟩
        rw [hr2, prsTo_succ]
        rfl
    · rintro H1 ⟨qs, s1, hP, hq⟩
      exact k D qs H1 s1 hD hP hq
abbrev s_steps_from : Stmt := top 9
theorem sc_steps_from : FnScope ["heaps", "step"] ["heaps"] (defScope s_steps_from) := ⟨rfl, rfl, rfl, by decide +kernel, rfl, by decide +kernel, by decide +kernel⟩
theorem ok_steps_from {f : Addr} {fd : FuncData} (F : Fun K "steps_from" "steps_from" s_steps_from f fd) (T : Tp mg) (C_pairs_of : Cal P w K mg base CX0 1 "pairs_of" ["many"] (spPairs K))
    (C_can_be_made : Cal P w K mg base CX0 1 "can_be_made" ["heaps", "step"] (spCan K)) : FnOk P w K mg base CX0 2 f fd ["heaps"] (spSteps K) := by
  refine F.ok sc_steps_from (fun vs H Q E h => ?_) (fun cdv A outer s H vs Q E hr h => ?_)
  · obtain ⟨t, ns, rfl, _⟩ := h
    rfl
  · obtain ⟨t, ns, rfl, hS, hg, k⟩ := h
    refine ⟨_, (pss_one (ps_ret (pe_lc (own := [("step", 1)]) (g := gName 1) (by rfl) sc_steps_from.nd (pi_list (pe_cal C_pairs_of hr rfl pass0 (pa_cons (pe_callB call_len_seq (by rfl) T.len PySem.boot_len (pa_cons (pv 0) pa_nil)) pa_nil))) (blkOk_by (own := [("step", 1)]) (N := ["heaps", "step"]) (sc := defScope s_steps_from) (by decide +kernel)) (fun _ _ _ _ _ => pg_name (i := 1) sc_steps_from.nd rfl (Or.inl rfl)) (fun _ _ _ _ _ => pts_one (pt_val (pe_cal C_can_be_made hr rfl pass0 (pa_cons (pv 0) (pa_cons (pv 1) pa_nil))))) (fun _ _ _ _ _ => (pv 1))))), ?_⟩
    have hl6 := hg
    have s1 : Same H H := Same.refl _
    have S1 := hS
    refine ⟨_, rfl, t, _, rfl, .inr S1, ns.length, by rw [List.length_map], hl6, fun l1 q1 H2 s2 hl1 hQ1 hq1 => ?_⟩
    have S2 := Same.tup s2 S1
    have hD0 : ∀ {D : Addr}, H2 D = none → H D = none := fun {D} z => by
      cases e : H D with
      | none => rfl
      | some o => exact absurd (s2 _ _ e) (by rw [z]; intro q; cases q)
    have hq1l : q1.length ≤ 36 := by
      have e := congrArg List.length hq1
      rw [List.length_map] at e
      rw [e]
      exact prs_short hl6
    refine ⟨l1, rfl, ⟨_, SqL.of hQ1.ls⟩, fun D hD => lc_list (K := K) (a := l1) (xs := q1.map fun p => V.ref p.1) (fun j H3 => PrL K H3 D ns.length ((q1.take j).filter fun p => can ns p.2.1 p.2.2) ∧ Same H2 H3) ⟨⟨upd_same, fun p hp => (nomatch hp)⟩, Same.new hD⟩ (fun j H3 _ q => SqL.of (q.2 _ _ hQ1.ls)) ?_ ?_⟩
    · rintro j x H3 hx ⟨hF, s3⟩
      rw [List.getElem?_map] at hx
      obtain ⟨p, hp, rfl⟩ := Option.map_eq_some_iff.mp hx
      obtain ⟨a1, a2, a3, a4⟩ := hQ1.st p (List.mem_of_getElem? hp)
      have nx : (q1.take (j + 1)).filter (fun p => can ns p.2.1 p.2.2) = (q1.take j).filter (fun p => can ns p.2.1 p.2.2) ++ (if can ns p.2.1 p.2.2 = true then [p] else []) := by
        rw [List.take_add_one, hp, List.filter_append]
        congr 1
        simp only [Option.toList, List.filter_cons, List.filter_nil]
      have fl : ((q1.take j).filter fun p => can ns p.2.1 p.2.2).length ≤ 36 := Nat.le_trans (List.length_filter_le _ _) (by rw [List.length_take]; omega)
      rw [nx]
      refine ⟨rfl, _, rfl, _, rfl, t, p.1, ns, p.2.1, p.2.2, rfl, Same.tup s3 S2, Same.tup s3 a1, a2, a3, _, rfl, ?_⟩
      cases hc : can ns p.2.1 p.2.2 with
      | true =>
        refine iteT ⟨_, rfl, _, hF.ls, ?_, ?_, same_upd s3 hD⟩
        · rw [List.length_map]
          exact Nat.lt_of_le_of_lt fl (by rw [sizeLine_eq]; omega)
        · refine ⟨by rw [upd_same, if_pos rfl, List.map_append]; rfl, fun y hy => ?_⟩
          rw [if_pos rfl] at hy
          rcases List.mem_append.mp hy with hy | hy
          · obtain ⟨b1, b2⟩ := hF.st y hy
            exact ⟨tup_at hF.ls b1, b2⟩
          · have e : y = p := by simpa using hy
            subst e
            exact ⟨tup_at hF.ls (Same.tup s3 a1), a2, a3, a4⟩
      | false =>
        refine iteF ?_
        rw [if_neg (by decide), List.append_nil]
        exact ⟨hF, s3⟩
    · rintro H3 ⟨hF, s3⟩
      rw [List.length_map, List.take_length] at hF
      refine k D _ H3 ((s1.trans s2).trans s3) (hD0 hD) hF ?_
      unfold due
      rw [← hq1, List.filter_map]
      rfl
abbrev s_all_behind : Stmt := top 12
theorem sc_all_behind : FnScope ["heaps", "step"] ["heaps"] (defScope s_all_behind) := ⟨rfl, rfl, rfl, by decide +kernel, rfl, by decide +kernel, by decide +kernel⟩
theorem ok_all_behind {f : Addr} {fd : FuncData} (F : Fun K "all_behind" "all_behind" s_all_behind f fd) (C_steps_from : Cal P w K mg base CX0 2 "steps_from" ["heaps"] (spSteps K)) (C_behind : Cal P w K mg base CX0 2 "behind" ["heaps", "step"] (spBehind K)) : FnOk P w K mg base CX0 3 f fd ["heaps"] (spAllBehind K) := by
  refine F.ok sc_all_behind (fun vs H Q E h => ?_) (fun cdv A outer s H vs Q E hr h => ?_)
  · obtain ⟨t, ns, rfl, _⟩ := h
    rfl
  · obtain ⟨t, ns, rfl, hS, hl6, k⟩ := h
    refine ⟨_, (pss_one (ps_ret (pe_lc (own := [("step", 1)]) (g := gName 1) (by rfl) sc_all_behind.nd (pi_list (pe_cal C_steps_from hr rfl pass0 (pa_cons (pv 0) pa_nil))) (blkOk_by (own := [("step", 1)]) (N := ["heaps", "step"]) (sc := defScope s_all_behind) (by decide +kernel)) (fun _ _ _ _ _ => pg_name (i := 1) sc_all_behind.nd rfl (Or.inl rfl)) (fun _ _ _ _ _ => pts_nil) (fun _ _ _ _ _ => (pe_cal C_behind hr rfl pass0 (pa_cons (pv 0) (pa_cons (pv 1) pa_nil))))))), ?_⟩
    refine ⟨_, rfl, t, ns, rfl, hS, hl6, fun l qs H1 s1 hl hP hq => ?_⟩
    have hql : qs.length ≤ 36 := by
      have e := congrArg List.length hq
      rw [List.length_map] at e
      rw [e]
      unfold due
      exact Nat.le_trans (List.length_filter_le _ _) (prs_short hl6)
    have S1 := Same.tup s1 hS
    refine ⟨l, rfl, ⟨_, SqL.of hP.ls⟩, fun D hD => lc_list (K := K) (a := l) (xs := qs.map fun p => V.ref p.1) (fun j H3 => ∃ hs : List Hrow, HpL K H3 D hs ∧ hs.map (·.2) = (qs.take j).map (fun q => mv ns q.2.1 q.2.2) ∧ (∀ p ∈ hs, H p.1 = none ∧ H3 p.1 = some (.tup (p.2.map V.int))) ∧ Same H1 H3)
      ⟨[], ⟨upd_same, fun p hp => (nomatch hp)⟩, rfl, (fun p hp => nomatch hp), Same.new hD⟩ (fun j H3 _ ⟨_, _, _, _, q⟩ => SqL.of (q _ _ hP.ls)) ?_ ?_⟩
    · rintro j x H3 hx ⟨hs, hF, hm, hn, s3⟩
      rw [List.getElem?_map] at hx
      obtain ⟨p, hp, rfl⟩ := Option.map_eq_some_iff.mp hx
      obtain ⟨a1, a2, a3, a4⟩ := hP.st p (List.mem_of_getElem? hp)
      have hsl : hs.length ≤ 36 := by
        have e := congrArg List.length hm
        rw [List.length_map, List.length_map, List.length_take] at e
        omega
      refine ⟨rfl, _, rfl, _, rfl, t, p.1, ns, p.2.1, p.2.2, rfl, Same.tup s3 S1, Same.tup s3 a1, a2, a3, a4, fun e H5 s5 he he5 => ?_⟩
      have hF5 := hF.same s5
      refine ⟨_, hF5.ls, ?_, hs ++ [(e, mv ns p.2.1 p.2.2)], ⟨?_, fun y hy => ?_⟩, ?_, fun y hy => ?_, same_upd (s3.trans s5) hD⟩
      · rw [List.length_map, sizeLine_eq]
        omega
      · rw [upd_same, List.map_append]
        rfl
      · rcases List.mem_append.mp hy with hy | hy
        · exact tup_at hF5.ls (hF5.st y hy)
        · have ey : y = (e, mv ns p.2.1 p.2.2) := by simpa using hy
          subst ey
          exact tup_at hF5.ls (SqT.of he5)
      · rw [List.map_append, hm, List.take_add_one, hp, List.map_append]
        rfl
      · rcases List.mem_append.mp hy with hy | hy
        · obtain ⟨b1, b2⟩ := hn y hy
          have b3 := s5 _ _ b2
          exact ⟨b1, by rw [upd_ne (ne_of b3 hF5.ls (by intro z; cases z))]; exact b3⟩
        · have ey : y = (e, mv ns p.2.1 p.2.2) := by simpa using hy
          subst ey
          refine ⟨?_, by rw [upd_ne (ne_of he5 hF5.ls (by intro z; cases z))]; exact he5⟩
          cases q : H e with
          | none => rfl
          | some o => exact absurd (s3 _ _ (s1 _ _ q)) (by rw [he]; intro z; cases z)
    · rintro H3 ⟨hs, hF, hm, hn, s3⟩
      rw [List.length_map, List.take_length] at hm
      refine k D hs H3 (s1.trans s3) ?_ hF ?_ hn
      · cases q : H D with
        | none => rfl
        | some o => exact absurd (s1 _ _ q) (by rw [hD]; intro z; cases z)
      · rw [hm, ← hq, List.map_map]
        rfl
end
end Hd
set_option maxHeartbeats 4000000
/-! A sleeping generator stays as it is while code runs that knows nothing of it: what holds of a run over ANY table of bare generators holds over one whose
sleepers cannot be woken; so the run wakes none, and over the true table it goes alike. -/
namespace Hd
open PySem PySem.Spec PyProof.Rows L2
open Sem (wp)

/-- this sleeper cannot be woken -/
def Stone (x : GenState) : Prop := ∃ k l c p fs cl, x = .suspended k l c p fs cl ∧ ∀ r, ∃ m, k r = .unsupported m
def Twin (x y : GenState) : Prop :=
  (x = y ∧ ∀ k l c p fs cl, x = .suspended k l c p fs cl → splitAtGen fs = none) ∨ (Stone x ∧ ∃ k k' l c p fs cl, x = .suspended k l c p fs cl ∧ y = .suspended k' l c p fs cl)
def Twins (G G' : Array GenState) : Prop := G.size = G'.size ∧ ∀ (i : Nat) (x y : GenState), G[i]? = some x → G'[i]? = some y → Twin x y
def Stay (G G1 G' G1' : Array GenState) : Prop := ∀ (i : Nat) (x y : GenState), G[i]? = some x → G'[i]? = some y → Stone x → G1[i]? = some x ∧ G1'[i]? = some y

theorem Stay.rfl' {G G' : Array GenState} : Stay G G G' G' := fun _ _ _ a b _ => ⟨a, b⟩
theorem Stay.then {G G1 G2 G' G1' G2' : Array GenState} (a : Stay G G1 G' G1') (b : Stay G1 G2 G1' G2') : Stay G G2 G' G2' := fun i x y h h' st =>
  let ⟨e, e'⟩ := a i x y h h' st; b i x y e e' st
theorem Twin.seen {x y : GenState} (h : Twin x y) : x.seen = y.seen := by
  rcases h with ⟨rfl, _⟩ | ⟨_, k, k', l, c, p, fs, cl, rfl, rfl⟩
  · rfl
  · rfl
theorem Twin.bare {x y : GenState} (h : Twin x y) : x.bare = y.bare := by
  rcases h with ⟨rfl, _⟩ | ⟨_, k, k', l, c, p, fs, cl, rfl, rfl⟩
  · rfl
  · rfl
theorem Twins.get {G G' : Array GenState} (h : Twins G G') {i : Nat} {x : GenState} (e : G[i]? = some x) : ∃ y, G'[i]? = some y ∧ Twin x y := by
  have hi : i < G.size := (Array.getElem?_eq_some_iff.mp e).1
  have hi' : i < G'.size := by rw [← h.1]; exact hi
  exact ⟨G'[i], Array.getElem?_eq_getElem hi', h.2 i x _ e (Array.getElem?_eq_getElem hi')⟩
theorem at_set {G : Array GenState} {g : Nat} {x y : GenState} (e : G[g]? = some x) : (G.setIfInBounds g y)[g]? = some y := by
  have hi : g < G.size := (Array.getElem?_eq_some_iff.mp e).1
  simp [hi]
theorem at_other {G : Array GenState} {g i : Nat} {y : GenState} (n : i ≠ g) : (G.setIfInBounds g y)[i]? = G[i]? := Array.getElem?_setIfInBounds_ne (Ne.symm n)
theorem Twins.set {G G' : Array GenState} (h : Twins G G') (g : Nat) (z : GenState) (hz : ∀ k l c p fs cl, z = .suspended k l c p fs cl → splitAtGen fs = none) : Twins (G.setIfInBounds g z) (G'.setIfInBounds g z) := by
  refine ⟨by simp [h.1], fun i x y e e' => ?_⟩
  by_cases n : i = g
  · subst n
    have hi : i < G.size := by have := (Array.getElem?_eq_some_iff.mp e).1; simpa using this
    have hi' : i < G'.size := by rw [← h.1]; exact hi
    have e1 : (G.setIfInBounds i z)[i]? = some z := by simp [hi]
    have e2 : (G'.setIfInBounds i z)[i]? = some z := by simp [hi']
    rw [e1] at e; rw [e2] at e'
    cases e; cases e'
    exact .inl ⟨rfl, hz⟩
  · rw [at_other n] at e e'
    exact h.2 i x y e e'
theorem Stay.set {G G' : Array GenState} {g : Nat} {a z : GenState} (e : G[g]? = some a) (na : ¬ Stone a) : Stay G (G.setIfInBounds g z) G' (G'.setIfInBounds g z) := fun i x y h h' st => by
  have n : i ≠ g := by
    rintro rfl
    rw [e] at h; cases h; exact na st
  rw [at_other n, at_other n]; exact ⟨h, h'⟩
theorem notStone_running : ¬ Stone .running := fun ⟨_, _, _, _, _, _, e, _⟩ => nomatch e
theorem notStone_fresh {c : Code} : ¬ Stone (.fresh c) := fun ⟨_, _, _, _, _, _, e, _⟩ => nomatch e
theorem Stay.through {G G1 G' G1' : Array GenState} {g : Nat} {a z : GenState} (e : G[g]? = some a) (na : ¬ Stone a) (s : Stay (G.setIfInBounds g .running) G1 (G'.setIfInBounds g .running) G1') : Stay G (G1.setIfInBounds g z) G' (G1'.setIfInBounds g z) := fun i x y h h' st => by
  have n : i ≠ g := by
    rintro rfl
    rw [e] at h; cases h; exact na st
  obtain ⟨e1, e2⟩ := s i x y (by rw [at_other n]; exact h) (by rw [at_other n]; exact h') st
  rw [at_other n, at_other n]; exact ⟨e1, e2⟩
theorem Twins.push {G G' : Array GenState} (h : Twins G G') (c : Code) : Twins (G.push (.fresh c)) (G'.push (.fresh c)) := by
  refine ⟨by rw [Array.size_push, Array.size_push, h.1], fun i x y e e' => ?_⟩
  rw [Array.getElem?_push] at e e'
  by_cases n : i = G.size
  · rw [if_pos n] at e; rw [if_pos (n.trans h.1)] at e'
    cases e; cases e'
    exact .inl ⟨rfl, fun _ _ _ _ _ _ z => nomatch z⟩
  · rw [if_neg n] at e; rw [if_neg (by rw [← h.1]; exact n)] at e'
    exact h.2 i x y e e'
theorem Stay.push {G G' : Array GenState} (c : GenState) : Stay G (G.push c) G' (G'.push c) := fun i x y e e' _ => by
  have hi : i < G.size := (Array.getElem?_eq_some_iff.mp e).1
  have hi' : i < G'.size := (Array.getElem?_eq_some_iff.mp e').1
  rw [Array.getElem?_push, Array.getElem?_push, if_neg (Nat.ne_of_lt hi), if_neg (Nat.ne_of_lt hi')]
  exact ⟨e, e'⟩

theorem split_ret {k : Result → Sem PySem.Fin} {h : Option Value} {g : Bool} {l kp : List Value} {c : Code} {p : Pos} {fs : List Frame} : splitAtGen (.ret k h g l c p kp :: fs) = none ↔ splitAtGen fs = none := by
  show ((splitAtGen fs).map _ = none) ↔ _
  rw [Option.map_eq_none_iff]
theorem split_app : ∀ {fs gs : List Frame}, splitAtGen fs = none → splitAtGen gs = none → splitAtGen (fs ++ gs) = none
  | [], _, _, h => h
  | .ret k h g l c p kp :: fs, gs, a, b => split_ret.mpr (split_app (split_ret.mp a) b)
  | .gen .. :: _, _, a, _ => nomatch a
theorem no_unsup {M : Model} {Γ : PySem.Ctx} {p : Pos} {m : String} {t : Sem PySem.Fin} {fs : List Frame} {s s' : Shared} {e : End} (h : Runs M Γ p t fs s e s') : t ≠ .unsupported m := by
  induction h with
  | segRet _ _ ih _ => exact ih
  | segGen _ _ ih _ => exact ih
  | segSuspOut _ _ ih => exact ih
  | segSuspGen _ _ _ _ ih _ => exact ih
  | _ => exact fun z => nomatch z

def EFree (e : End) : Prop := ∀ v g l k c p fs, e = .susp v g l k c p fs → splitAtGen fs = none
theorem EFree.ret {r : Result} : EFree (.ret r) := fun _ _ _ _ _ _ _ z => nomatch z
theorem EFree.state {e : End} (h : EFree e) : ∀ k l c p fs cl, e.genState = .suspended k l c p fs cl → splitAtGen fs = none := fun k l c p fs cl z => by
  cases e with
  | ret r => exact nomatch z
  | susp v g l' k' c' p' fs' =>
    have z' : GenState.suspended k' l' c' p' fs' (g || fs'.any Frame.guarded) = .suspended k l c p fs cl := z
    injection z' with _ _ _ _ z5 _
    subst z5
    exact h v g l' k' c' p' fs' rfl
theorem setg (s : Shared) (G : Array GenState) (g : Nat) (x : GenState) : ({ s with gens := G } : Shared).setGen g x = { s with gens := G.setIfInBounds g x } := rfl

theorem runs_twin {M : Model} {Γ : PySem.Ctx} {p : Pos} {t : Sem PySem.Fin} {fs : List Frame} {s s1 : Shared} {e : End} (h : Runs M Γ p t fs s e s1) :
    splitAtGen fs = none → ∀ G', Twins s.gens G' → EFree e ∧ ∃ G1', Twins s1.gens G1' ∧ Stay s.gens s1.gens G' G1' ∧ Runs M Γ p t fs { s with gens := G' } e { s1 with gens := G1' } := by
  induction h with
  | done => exact fun _ G' r => ⟨EFree.ret, G', r, Stay.rfl', .done⟩
  | raise => exact fun _ G' r => ⟨EFree.ret, G', r, Stay.rfl', .raise⟩
  | again q _ ih => exact fun f G' r => let ⟨a, G1, b, c, d⟩ := ih f G' r; ⟨a, G1, b, c, .again q d⟩
  | rule _ ih => exact fun f G' r => let ⟨a, G1, b, c, d⟩ := ih f G' r; ⟨a, G1, b, c, .rule d⟩
  | «at» _ ih => exact fun f G' r => let ⟨a, G1, b, c, d⟩ := ih f G' r; ⟨a, G1, b, c, .at d⟩
  | load q _ ih => exact fun f G' r => let ⟨a, G1, b, c, d⟩ := ih f G' r; ⟨a, G1, b, c, .load (by exact q) d⟩
  | update q _ ih => exact fun f G' r => let ⟨a, G1, b, c, d⟩ := ih f G' r; ⟨a, G1, b, c, .update (by exact q) d⟩
  | loadIfAlive _ ih => exact fun f G' r => let ⟨a, G1, b, c, d⟩ := ih f G' r; ⟨a, G1, b, c, .loadIfAlive d⟩
  | point _ ih => exact fun f G' r => let ⟨a, G1, b, c, d⟩ := ih f G' r; ⟨a, G1, b, c, .point d⟩
  | alloc _ ih => exact fun f G' r => let ⟨a, G1, b, c, d⟩ := ih f G' r; ⟨a, G1, b, c, .alloc d⟩
  | fresh _ ih => exact fun f G' r => let ⟨a, G1, b, c, d⟩ := ih f G' r; ⟨a, G1, b, c, .fresh d⟩
  | ask _ ih => exact fun f G' r => let ⟨a, G1, b, c, d⟩ := ih f G' r; ⟨a, G1, b, c, .ask d⟩
  | choose q _ ih => exact fun f G' r => let ⟨a, G1, b, c, d⟩ := ih f G' r; ⟨a, G1, b, c, .choose q d⟩
  | os _ ih => exact fun f G' r => let ⟨a, G1, b, c, d⟩ := ih f G' r; ⟨a, G1, b, c, .os d⟩
  | handled _ ih => exact fun f G' r => let ⟨a, G1, b, c, d⟩ := ih f G' r; ⟨a, G1, b, c, .handled d⟩
  | stack _ ih => exact fun f G' r => let ⟨a, G1, b, c, d⟩ := ih f G' r; ⟨a, G1, b, c, .stack d⟩
  | thread _ ih => exact fun f G' r => let ⟨a, G1, b, c, d⟩ := ih f G' r; ⟨a, G1, b, c, .thread d⟩
  | genState q _ ih =>
    intro f G' r
    obtain ⟨y, hy, tw⟩ := r.get q
    obtain ⟨a, G1, b, c, d⟩ := ih f G' r
    rw [tw.seen] at d
    exact ⟨a, G1, b, c, .genState hy d⟩
  | newGen _ ih =>
    intro f G' r
    obtain ⟨a, G1, b, c', d⟩ := ih f _ (r.push _)
    refine ⟨a, G1, b, (Stay.push _).then c', .newGen ?_⟩
    rw [r.1] at d
    exact d
  | call _ _ ih1 ih2 =>
    intro f G' r
    obtain ⟨_, G1, b1, c1, d1⟩ := ih1 rfl G' r
    obtain ⟨a, G2, b2, c2, d2⟩ := ih2 f G1 b1
    exact ⟨a, G2, b2, c1.then c2, .call d1 d2⟩
  | callSusp _ ih =>
    intro f G' r
    obtain ⟨a, G1, b, c, d⟩ := ih rfl G' r
    refine ⟨fun v g l k c' p' fs' z => ?_, G1, b, c, .callSusp d⟩
    injection z with _ _ _ _ _ _ z7
    subst z7
    exact split_app (a _ _ _ _ _ _ _ rfl) (split_ret.mpr rfl)
  | yield => exact fun f G' r => ⟨fun _ _ _ _ _ _ _ z => by injection z with _ _ _ _ _ _ z7; subst z7; rfl, G', r, Stay.rfl', .yield⟩
  | @resumeFresh Γ p g l k s c e₁ s₁ e s' q _ hq _ ih1 ih2 =>
    intro f G' r
    obtain ⟨y, hy, tw⟩ := r.get q
    have ey : y = .fresh c := by
      rcases tw with ⟨z, _⟩ | ⟨_, _, _, _, _, _, _, _, z, _⟩
      · exact z.symm
      · exact nomatch z
    subst ey
    obtain ⟨a1, G1, b1, c1, d1⟩ := ih1 rfl _ (r.set g .running fun _ _ _ _ _ _ z => nomatch z)
    obtain ⟨a, G2, b2, c2, d2⟩ := ih2 f _ (b1.set g e₁.genState a1.state)
    exact ⟨a, G2, b2, (Stay.through q notStone_fresh c1).then c2, .resumeFresh hy d1 hq d2⟩
  | @resumeSuspended Γ p g r' l k s k₀ l₀ c₀ p₀ fs₀ cl e₁ s₁ e s' q hrun hq _ ih1 ih2 =>
    intro f G' r
    obtain ⟨y, hy, tw⟩ := r.get q
    rcases tw with ⟨z, hf⟩ | ⟨⟨k', l', c', p', fs', cl', z, hk⟩, _⟩
    · subst z
      have ns : ¬ Stone (.suspended k₀ l₀ c₀ p₀ fs₀ cl) := fun ⟨k', l', c', p', fs', cl', z, hk⟩ => by
        injection z with z1
        subst z1
        obtain ⟨m, em⟩ := hk r'
        exact no_unsup (m := m) hrun em
      obtain ⟨a1, G1, b1, c1, d1⟩ := ih1 (hf _ _ _ _ _ _ rfl) _ (r.set g .running fun _ _ _ _ _ _ z => nomatch z)
      obtain ⟨a, G2, b2, c2, d2⟩ := ih2 f _ (b1.set g e₁.genState a1.state)
      exact ⟨a, G2, b2, (Stay.through q ns c1).then c2, .resumeSuspended hy d1 hq d2⟩
    · injection z with z1
      subst z1
      obtain ⟨m, em⟩ := hk r'
      exact absurd em (no_unsup hrun)
  | resumeJustStarted q n _ ih =>
    intro f G' r
    obtain ⟨y, hy, tw⟩ := r.get q
    obtain ⟨a, G1, b, c, d⟩ := ih f G' r
    rcases tw with ⟨z, _⟩ | ⟨_, _, _, _, _, _, _, _, z, _⟩
    · subst z; exact ⟨a, G1, b, c, .resumeJustStarted hy n d⟩
    · exact nomatch z
  | resumeThrowFresh q _ ih =>
    intro f G' r
    obtain ⟨y, hy, tw⟩ := r.get q
    rcases tw with ⟨z, _⟩ | ⟨_, _, _, _, _, _, _, _, z, _⟩
    · subst z
      obtain ⟨a, G1, b, c', d⟩ := ih f _ (r.set _ .finished fun _ _ _ _ _ _ z => nomatch z)
      exact ⟨a, G1, b, (Stay.set q notStone_fresh).then c', .resumeThrowFresh hy d⟩
    · exact nomatch z
  | resumeRunning q _ ih =>
    intro f G' r
    obtain ⟨y, hy, tw⟩ := r.get q
    obtain ⟨a, G1, b, c, d⟩ := ih f G' r
    rcases tw with ⟨z, _⟩ | ⟨_, _, _, _, _, _, _, _, z, _⟩
    · subst z; exact ⟨a, G1, b, c, .resumeRunning hy d⟩
    · exact nomatch z
  | resumeFinished q _ ih =>
    intro f G' r
    obtain ⟨y, hy, tw⟩ := r.get q
    obtain ⟨a, G1, b, c, d⟩ := ih f G' r
    rcases tw with ⟨z, _⟩ | ⟨_, _, _, _, _, _, _, _, z, _⟩
    · subst z; exact ⟨a, G1, b, c, .resumeFinished hy d⟩
    · exact nomatch z
  | segRet _ _ ih1 ih2 =>
    intro f G' r
    obtain ⟨_, G1, b1, c1, d1⟩ := ih1 rfl G' r
    obtain ⟨a, G2, b2, c2, d2⟩ := ih2 (split_ret.mp f) G1 b1
    exact ⟨a, G2, b2, c1.then c2, .segRet d1 d2⟩
  | segGen _ _ _ _ => exact fun f => nomatch f
  | segSuspOut q _ ih =>
    intro f G' r
    obtain ⟨a, G1, b, c, d⟩ := ih rfl G' r
    refine ⟨fun v g l k c' p' fs' z => ?_, G1, b, c, .segSuspOut q d⟩
    injection z with _ _ _ _ _ _ z7
    subst z7
    exact split_app (a _ _ _ _ _ _ _ rfl) f
  | segSuspGen q _ _ _ _ _ => exact fun f => by rw [q] at f; exact nomatch f

theorem wp_twin {α : Type} (M : Model) (Γ : PySem.Ctx) (t : Sem α) : ∀ (Q : α → Pos → Shared → Prop) (E : Value → Pos → Shared → Prop) (p : Pos) (s : Shared) (G' : Array GenState), Twins s.gens G' → wp M Γ t Q E p s →
    wp M Γ t (fun a p' s' => ∃ G, Twins G s'.gens ∧ Stay s.gens G G' s'.gens ∧ Q a p' { s' with gens := G }) (fun e p' s' => ∃ G, Twins G s'.gens ∧ Stay s.gens G G' s'.gens ∧ E e p' { s' with gens := G }) p { s with gens := G' } := by
  induction t with
  | pure a => intro Q E p s G' r h; exact ⟨s.gens, r, Stay.rfl', h⟩
  | raise e => intro Q E p s G' r h; exact ⟨s.gens, r, Stay.rfl', h⟩
  | unsupported _ => intro Q E p s G' _ h; exact h
  | finish _ => intro Q E p s G' _ h; exact h
  | rule _ k ih => intro Q E p s G' r h; exact ih () Q E p s G' r h
  | «at» p' k ih => intro Q E p s G' r h; exact ih () Q E p' s G' r h
  | load a _ k ih => intro Q E p s G' r h; obtain ⟨o, ho, h⟩ := h; exact ⟨o, ho, ih o Q E p s G' r h⟩
  | update a _ f k ih => intro Q E p s G' r h; exact ⟨h.1, ih () Q E p { s with heap := s.heap.update a f } G' r h.2⟩
  | loadIfAlive a k ih => intro Q E p s G' r h; exact ih _ Q E p s G' r h
  | point _ k ih => intro Q E p s G' r h; exact ih () Q E p s G' r h
  | register _ _ => intro Q E p s G' _ h; exact h
  | alloc o k ih => intro Q E p s G' r h; exact ih _ Q E p { s with heap := s.heap.push o } G' r h
  | fresh k ih => intro Q E p s G' r h; exact ih _ Q E p { s with toks := s.toks + 1 } G' r h
  | ask k ih => intro Q E p s G' r h; exact ih _ Q E p s G' r h
  | choose src m k ih => intro Q E p s G' r h; exact ⟨h.1, ih _ Q E p { s with drawn := s.drawn.bump src } G' r h.2⟩
  | os q _ k ih => intro Q E p s G' r h; exact ih _ Q E p { s with os := (Os.step s.os q).1 } G' r h
  | call c hd _ _ k ih =>
    intro Q E p s G' r h
    obtain ⟨res, s', hr, h⟩ := h
    obtain ⟨_, G1, b, st, d⟩ := runs_twin hr rfl G' r
    refine ⟨res, { s' with gens := G1 }, d, ?_⟩
    refine Sem.wp_mono M _ _ (fun a p' s'' ⟨G, x, y, z⟩ => ⟨G, x, st.then y, z⟩) (fun a p' s'' ⟨G, x, y, z⟩ => ⟨G, x, st.then y, z⟩) _ _ (ih res Q E p s' G1 b h)
  | handled own k ih => intro Q E p s G' r h; exact ih _ Q E p s G' r h
  | genState g k ih =>
    intro Q E p s G' r h
    obtain ⟨st, hs, h⟩ := h
    obtain ⟨y, hy, tw⟩ := r.get hs
    rw [tw.seen] at h
    exact ⟨y, hy, ih _ Q E p s G' r h⟩
  | newGen c k ih =>
    intro Q E p s G' r h
    have h2 := ih _ Q E p _ _ (r.push c) h
    rw [r.1] at h2
    exact Sem.wp_mono M _ _ (fun a p' s'' ⟨G, x, y, z⟩ => ⟨G, x, (Stay.push _).then y, z⟩) (fun a p' s'' ⟨G, x, y, z⟩ => ⟨G, x, (Stay.push _).then y, z⟩) _ _ h2
  | resume g rr lv k ih =>
    intro Q E p s G' r h
    obtain ⟨res, s', hw, h⟩ := h
    have fin : ∀ {G1 : Array GenState}, Twins s'.gens G1 → Stay s.gens s'.gens G' G1 → Wakes M Γ p g rr { s with gens := G' } res { s' with gens := G1 } →
        wp M Γ (.resume g rr lv k) (fun a p' s' => ∃ G, Twins G s'.gens ∧ Stay s.gens G G' s'.gens ∧ Q a p' { s' with gens := G }) (fun e p' s' => ∃ G, Twins G s'.gens ∧ Stay s.gens G G' s'.gens ∧ E e p' { s' with gens := G }) p { s with gens := G' } := fun {G1} b st w =>
      ⟨res, _, w, Sem.wp_mono M _ _ (fun a p' s'' ⟨G, x, y, z⟩ => ⟨G, x, st.then y, z⟩) (fun a p' s'' ⟨G, x, y, z⟩ => ⟨G, x, st.then y, z⟩) _ _ (ih res Q E p s' G1 b h)⟩
    unfold Wakes at hw
    cases q : s.gens[g]? with
    | none => rw [q] at hw; exact hw.elim
    | some x =>
      rw [q] at hw
      obtain ⟨y, hy, tw⟩ := r.get q
      have hy' : ({ s with gens := G' } : Shared).gens[g]? = some y := hy
      cases x with
      | fresh c =>
        have ey : y = .fresh c := by
          rcases tw with ⟨z, _⟩ | ⟨_, _, _, _, _, _, _, _, z, _⟩
          · exact z.symm
          · exact nomatch z
        subst ey
        have ran : ∀ {r' : Resume}, r' = .send .none → (∃ e₁ s₁, Runs M (Γ.wake c p) p (M.den c) [] (s.setGen g .running) e₁ s₁ ∧ e₁.quiet = true ∧ res = e₁.result ∧ s' = s₁.setGen g e₁.genState) →
            ∃ G1, Twins s'.gens G1 ∧ Stay s.gens s'.gens G' G1 ∧ ∃ e₁ s₁, Runs M (Γ.wake c p) p (M.den c) [] (({ s with gens := G' } : Shared).setGen g .running) e₁ s₁ ∧ e₁.quiet = true ∧ res = e₁.result ∧ ({ s' with gens := G1 } : Shared) = s₁.setGen g e₁.genState := by
          rintro r' _ ⟨e₁, s₁, hr, hq, e1, rfl⟩
          obtain ⟨a1, G1, b1, c1, d1⟩ := runs_twin hr rfl _ (r.set g .running fun _ _ _ _ _ _ z => nomatch z)
          exact ⟨G1.setIfInBounds g e₁.genState, b1.set g _ a1.state, Stay.through q notStone_fresh c1, e₁, { s₁ with gens := G1 }, d1, hq, e1, rfl⟩
        cases rr with
        | throw x =>
          obtain ⟨e1, e2⟩ := hw
          subst e1; subst e2
          refine fin (G1 := G'.setIfInBounds g .finished) (r.set g .finished fun _ _ _ _ _ _ z => nomatch z) (Stay.set q notStone_fresh) ?_
          unfold Wakes
          rw [hy']
          exact ⟨rfl, rfl⟩
        | send v =>
          cases v with
          | none =>
            obtain ⟨G1, b1, c1, w1⟩ := ran rfl hw
            refine fin b1 c1 ?_
            unfold Wakes
            rw [hy']
            exact w1
          | _ =>
            obtain ⟨e1, e2⟩ := hw
            subst e1; subst e2
            refine fin r Stay.rfl' ?_
            unfold Wakes
            rw [hy']
            exact ⟨rfl, rfl⟩
      | suspended k₀ l₀ c₀ p₀ fs₀ cl =>
        obtain ⟨e₁, s₁, hr, hq, e1, e2⟩ := hw
        rcases tw with ⟨z, hf⟩ | ⟨⟨k', l', c', p', fs', cl', z, hk⟩, _⟩
        · subst z
          subst e2
          have ns : ¬ Stone (.suspended k₀ l₀ c₀ p₀ fs₀ cl) := fun ⟨k', l', c', p', fs', cl', z, hk⟩ => by
            injection z with z1
            subst z1
            obtain ⟨m, em⟩ := hk rr
            exact no_unsup (m := m) hr em
          obtain ⟨a1, G1, b1, c1, d1⟩ := runs_twin hr (hf _ _ _ _ _ _ rfl) _ (r.set g .running fun _ _ _ _ _ _ z => nomatch z)
          refine fin (b1.set g _ a1.state) (Stay.through q ns c1) ?_
          unfold Wakes
          rw [hy']
          exact ⟨e₁, { s₁ with gens := G1 }, d1, hq, e1, rfl⟩
        · injection z with z1
          subst z1
          obtain ⟨m, em⟩ := hk rr
          exact absurd em (no_unsup hr)
      | running =>
        have ey : y = .running := by
          rcases tw with ⟨z, _⟩ | ⟨_, _, _, _, _, _, _, _, z, _⟩
          · exact z.symm
          · exact nomatch z
        subst ey
        obtain ⟨e1, e2⟩ := hw
        subst e1; subst e2
        refine fin r Stay.rfl' ?_
        unfold Wakes
        rw [hy']
        exact ⟨rfl, rfl⟩
      | finished =>
        have ey : y = .finished := by
          rcases tw with ⟨z, _⟩ | ⟨_, _, _, _, _, _, _, _, z, _⟩
          · exact z.symm
          · exact nomatch z
        subst ey
        obtain ⟨e1, e2⟩ := hw
        subst e1; subst e2
        refine fin r Stay.rfl' ?_
        unfold Wakes
        rw [hy']
        exact ⟨rfl, rfl⟩
  | yield _ _ _ _ => intro Q E p s G' _ h; exact h
  | stack k ih => intro Q E p s G' r h; exact ih _ Q E p s G' r h
  | fork _ _ => intro Q E p s G' _ h; exact h
  | thread k ih => intro Q E p s G' r h; exact ih _ Q E p s G' r h
  | await _ _ _ _ _ => intro Q E p s G' _ h; exact h
/-- a sleeper made a stone -/
def stoned : GenState → GenState
  | .suspended _ l c p fs cl => .suspended (fun _ => .unsupported "") l c p fs cl
  | x => x
theorem twin_stoned (x : GenState) : Twin (stoned x) x := by
  cases x with
  | suspended k l c p fs cl => exact .inr ⟨⟨_, l, c, p, fs, cl, rfl, fun _ => ⟨_, rfl⟩⟩, _, k, l, c, p, fs, cl, rfl, rfl⟩
  | fresh c => exact .inl ⟨rfl, fun _ _ _ _ _ _ z => nomatch z⟩
  | running => exact .inl ⟨rfl, fun _ _ _ _ _ _ z => nomatch z⟩
  | finished => exact .inl ⟨rfl, fun _ _ _ _ _ _ z => nomatch z⟩
theorem twins_stoned (G : Array GenState) : Twins (G.map stoned) G := by
  refine ⟨by simp, fun i x y e e' => ?_⟩
  rw [Array.getElem?_map, e'] at e
  cases e
  exact twin_stoned y
theorem bare_stoned {G : Array GenState} (h : AllBare G) : AllBare (G.map stoned) := fun x hx => by
  obtain ⟨y, hy, rfl⟩ := Array.mem_map.mp hx
  rw [(twin_stoned y).bare]
  exact h y hy
theorem Twins.bare {G G' : Array GenState} (h : Twins G G') (b : AllBare G) : AllBare G' := fun y hy => by
  obtain ⟨i, hi, e⟩ := Array.mem_iff_getElem.mp hy
  have e' : G'[i]? = some y := by rw [Array.getElem?_eq_getElem hi, e]
  have hi' : i < G.size := by rw [h.1]; exact hi
  have e1 : G[i]? = some G[i] := Array.getElem?_eq_getElem hi'
  rw [← (h.2 i _ y e1 e').bare]
  exact b _ (Array.getElem_mem hi')
/-- all sleepers of G sleep in G' as they did -/
def Dream (G G' : Array GenState) : Prop := ∀ (i : Nat) k l c p fs cl, G[i]? = some (GenState.suspended k l c p fs cl) → G'[i]? = some (GenState.suspended k l c p fs cl)
/-- THE RULE: what holds over the table of stones holds over the true one, and no sleeper has stirred -/
theorem wpAny_asleep {α : Type} {M : Model} {A : Around} {t : Sem α} {Q : α → Shared → Prop} {E : Value → Shared → Prop} {s : Shared} (h : wpAny M A t Q E { s with gens := s.gens.map stoned }) :
    wpAny M A t (fun a s' => ∃ G, Twins G s'.gens ∧ Dream s.gens s'.gens ∧ Q a { s' with gens := G }) (fun e s' => ∃ G, Twins G s'.gens ∧ Dream s.gens s'.gens ∧ E e { s' with gens := G }) s := fun Γ p hΓ => by
  have h1 := wp_twin M Γ t _ _ p { s with gens := s.gens.map stoned } s.gens (twins_stoned s.gens) (h Γ p hΓ)
  have st : ∀ {G G' : Array GenState}, Stay (s.gens.map stoned) G s.gens G' → Dream s.gens G' := fun {G G'} x i k l c p fs cl e =>
    (x i (stoned (GenState.suspended k l c p fs cl)) _ (by rw [Array.getElem?_map, e]; rfl) e ⟨_, l, c, p, fs, cl, rfl, fun _ => ⟨_, rfl⟩⟩).2
  exact Sem.wp_mono M Γ t (fun a p' s' ⟨G, x, y, z⟩ => ⟨G, x, st y, z⟩) (fun a p' s' ⟨G, x, y, z⟩ => ⟨G, x, st y, z⟩) p s h1
theorem Inv.regen {X : Cx} {pins : List (Addr × Obj)} {σ : List (Option V)} {H : Hp} {s : Shared} {G : Array GenState} (I : Inv X pins σ H s) (b : AllBare G) : Inv X pins σ H { s with gens := G } :=
  ⟨I.ok, I.os, b, I.base, I.loc, I.cell, I.free, I.freeC, I.pin, I.hok, I.len⟩
end Hd
set_option maxHeartbeats 4000000
/-! One segment of a generator's run: from where it wakes to where it hands out or ends. -/
namespace Hd
open PySem PySem.Spec PyProof.Rows L2
open Sem (wp)

/-- it runs to an end of which F holds -/
def Sg (M : Model) (A : Around) (c : Code) (t : Sem PySem.Fin) (fs : List Frame) (s : Shared) (F : End → Shared → Prop) : Prop :=
  ∀ Γ p, Γ.code = c → Γ.Woken A → ∃ e s', Runs M Γ p t fs s e s' ∧ F e s'
section
variable {M : Model} {A : Around} {c : Code} {fs : List Frame} {s : Shared} {F : End → Shared → Prop}
theorem sg_wrap {α : Type} {m : Sem α} {K : α → Sem PySem.Fin} {J : Value → Sem PySem.Fin} {gd : Bool → Bool} {lv : List Value → List Value}
    (h : wpAny M (A.over c fs) m (fun a s' => Sg M A c (K a) fs s' F) (fun x s' => Sg M A c (J x) fs s' F) s) : Sg M A c (m.wrap K J gd lv) fs s F := by
  intro Γ p hc hW
  subst hc
  refine runs_wrap_of_wp K J gd lv m (h (Γ.over fs) p (hW.over fs)) ?_ ?_
  · exact fun a p' s' q => q Γ p' rfl hW
  · exact fun x p' s' q => q Γ p' rfl hW
theorem sg_bind {α : Type} {m : Sem α} {K : α → Sem PySem.Fin}
    (h : wpAny M (A.over c fs) m (fun a s' => Sg M A c (K a) fs s' F) (fun x s' => Sg M A c (.raise x) fs s' F) s) : Sg M A c (m >>= K) fs s F := by
  rw [Sem.bind_eq_wrap']
  exact sg_wrap h
theorem sg_at {q : Pos} {k : Unit → Sem PySem.Fin} (h : Sg M A c (k ()) fs s F) : Sg M A c (.at q k) fs s F := by
  have w := sg_wrap (M := M) (A := A) (c := c) (fs := fs) (s := s) (F := F) (m := standAt q) (K := k) (J := .raise) (gd := id) (lv := id) (wpAny_standAt h)
  exact w
theorem sg_point {l : List Value} {k : Unit → Sem PySem.Fin} (h : Sg M A c (k ()) fs s F) : Sg M A c (.point l k) fs s F := by
  have w := sg_wrap (M := M) (A := A) (c := c) (fs := fs) (s := s) (F := F) (m := point) (K := k) (J := .raise) (gd := id) (lv := fun _ => l) (wpAny_point h)
  exact w
theorem sg_call {c' : Code} {x : Option Value} {g : Bool} {l : List Value} {k : Result → Sem PySem.Fin} (h : ∀ p, Sg M A c' (M.den c') (.ret k x g l c p [] :: fs) s F) : Sg M A c (.call c' x g l k) fs s F := by
  intro Γ p hc hW
  subst hc
  obtain ⟨e, s', hr, he⟩ := h p (Γ.goto c') p rfl (hW.goto c')
  exact ⟨e, s', runs_call_seg hr, he⟩
theorem sg_leaf {k : Result → Sem PySem.Fin} {x : Option Value} {g : Bool} {l kp : List Value} {c₁ : Code} {p₁ : Pos} (r : Result) (h : Sg M A c₁ (k r) fs s F) : Sg M A c (leafOf r) (.ret k x g l c₁ p₁ kp :: fs) s F := by
  intro Γ p hc hW
  subst hc
  obtain ⟨e, s', hr, he⟩ := h (Γ.goto c₁) p₁ rfl (hW.goto c₁)
  exact ⟨e, s', Runs.pop r hr, he⟩
theorem sg_again {c' : Code} (q : c'.quiet = true) (h : Sg M A c' (M.den c') fs s F) : Sg M A c (.pure (.again c')) fs s F := by
  intro Γ p hc hW
  subst hc
  obtain ⟨e, s', hr, he⟩ := h (Γ.goto c') p rfl (hW.goto c')
  exact ⟨e, s', Runs.head (c₁ := c') (fun _ _ x => .again q x) hr, he⟩
theorem sg_end (r : Result) (h : F (.ret r) s) : Sg M A c (leafOf r) [] s F := fun Γ p _ _ => ⟨.ret r, s, Runs.leaf r, h⟩
theorem sg_out {v : Value} {g : Bool} {l : List Value} {k : Resume → Sem PySem.Fin} (hf : splitAtGen fs = none) (h : ∀ p, F (.susp v g l k c p fs) s) : Sg M A c (.yield v g l k) fs s F := by
  intro Γ p hc hW
  subst hc
  exact ⟨_, s, Runs.yield' fs hf, h p⟩
theorem sg_cons {env : Env} {K : Flow → Sem PySem.Fin} {J : Value → Sem PySem.Fin} {gd : Bool → Bool} {lv : List Value → List Value} {st : Stmt} {rest : List Stmt}
    (h : Sg M A c ((exec st env).wrap (fun f => match f with | .next => (execs rest env).wrap K J gd lv | f => K f) J gd lv) fs s F) : Sg M A c ((execs (st :: rest) env).wrap K J gd lv) fs s F := by
  rw [execs_cons_wrap]
  exact h
theorem sg_mono {t : Sem PySem.Fin} {F' : End → Shared → Prop} (h : Sg M A c t fs s F) (i : ∀ e s', F e s' → F' e s') : Sg M A c t fs s F' := fun Γ p hc hW =>
  let ⟨e, s', hr, he⟩ := h Γ p hc hW; ⟨e, s', hr, i e s' he⟩
/-- yield e; it wakes where what follows stands -/
theorem sg_yield {env : Env} {K : Flow → Sem PySem.Fin} {J : Value → Sem PySem.Fin} {gd : Bool → Bool} {lv : List Value → List Value} {e : Expr} {yp pos : Pos} (hs : splitAtGen fs = none)
    (h : wpAny M (A.over c fs) (eval e env) (fun v s' => ∀ (k : Resume → Sem PySem.Fin) (l : List Value) (p : Pos), (∀ (s2 : Shared) (F2 : End → Shared → Prop), Sg M A c (K .next) fs s2 F2 → Sg M A c (k (.send .none)) fs s2 F2) → F (.susp v (gd false) l k c p fs) s')
      (fun x s' => Sg M A c (J x) fs s' F) s) (hco : env.scope.isCoroutine = false := by rfl) (hi : interactive env = false := by rfl) : Sg M A c ((exec (.Expr (.Yield (some e) yp) pos) env).wrap K J gd lv) fs s F := by
  rw [exec_Expr env _ pos hi rfl]
  show Sg M A c (.at pos fun _ => ((eval e env >>= fun v => (standAt yp >>= fun _ => yieldOut env v)) >>= fun x => dropValue (.Yield (some e) yp) pos x).wrap K J gd lv) fs s F
  have hy : ∀ v, yieldOut env v = yieldValue v := fun v => by unfold yieldOut; rw [hco]; rfl
  simp only [hy]
  refine sg_at ?_
  rw [Sem.bind_eq_wrap', Sem.bind_eq_wrap', Sem.wrap_wrap, Sem.wrap_wrap]
  refine sg_wrap (wpAny_mono h (fun v s' q => ?_) fun _ _ x => x)
  refine sg_at (sg_out hs fun p => ?_)
  refine q _ _ p fun s2 F2 z => ?_
  exact z
end

/-! ### a generator is woken -/
/-- where it goes on -/
def GoS (M : Model) (A : Around) (gs : GenState) (s : Shared) (F : End → Shared → Prop) : Prop :=
  match gs with
  | .fresh c => Sg M A c (M.den c) [] s F
  | .suspended k _ c _ fs _ => Sg M A c (k (.send .none)) fs s F
  | _ => False
theorem wpAny_wake {M : Model} {A : Around} {α : Type} {k : GenResult → Sem α} {Q : α → Shared → Prop} {E : Value → Shared → Prop} {s : Shared} {g : Nat} {gs : GenState} {l : List Value} {F : End → Shared → Prop}
    (hg : s.gens[g]? = some gs) (h : GoS M A gs (s.setGen g .running) F) (hq : ∀ e s1, F e s1 → e.quiet = true) (hk : ∀ e s1, F e s1 → wpAny M A (k e.result) Q E (s1.setGen g e.genState)) : wpAny M A (.resume g (.send .none) l k) Q E s := by
  intro Γ p hΓ
  rw [Sem.wp_resume]
  cases gs with
  | fresh c =>
    obtain ⟨e, s1, hr, he⟩ := h (Γ.wake c p) p rfl (hΓ.wake c p)
    refine ⟨_, _, ?_, hk e s1 he Γ p hΓ⟩
    unfold Wakes
    rw [hg]
    exact ⟨e, s1, hr, hq e s1 he, rfl, rfl⟩
  | suspended k0 l0 c0 p0 fs0 cl =>
    obtain ⟨e, s1, hr, he⟩ := h (Γ.wake c0 p) p0 rfl (hΓ.wake c0 p)
    refine ⟨_, _, ?_, hk e s1 he Γ p hΓ⟩
    unfold Wakes
    rw [hg]
    exact ⟨e, s1, hr, hq e s1 he, rfl, rfl⟩
  | running => exact False.elim h
  | finished => exact False.elim h
/-- the end of an iterator: its own error -/
def Stopped (e : Value) (h : Heap) : Prop := ∃ b o, e = .ref b ∧ h.get? b = some o ∧ o.cls = .type "StopIteration"
/-- g.__next__(): it hands out, or it ends -/
theorem special_woken {P : Program} {w : World} {A : Around} {Q : Option Value → Shared → Prop} {E : Value → Shared → Prop} {s : Shared} {a : Addr} {g : Nat} {gs : GenState} {F : End → Shared → Prop} (hh : A.handled = none)
    (hl : s.heap.NoLimit) (hd : A.depth < recursionLimit) (ha : s.heap.IsGen a g) (hg : s.gens[g]? = some gs) (h : GoS (model P w) A.in1 gs (s.setGen g .running) F)
    (hq : ∀ e s1, F e s1 → e.quiet = true)
    (hs : ∀ v gd l k c p fs s1, F (.susp v gd l k c p fs) s1 → Q (some v) (s1.setGen g (.suspended k l c p fs (gd || fs.any Frame.guarded))))
    (hr : ∀ r s1, F (.ret r) s1 → (r = .ok (.ret .none) ∨ r = .ok .next) ∧ ∀ e h', (∀ b o, s1.heap.get? b = some o → h'.get? b = some o) → Stopped e h' → E e { s1.setGen g .finished with heap := h' }) :
    wpAny (model P w) A (callSpecial? (.ref a) "__next__") Q E s := by
  refine wpAny_callSpecial?_slot (name := Str.ofString "__next__") ha.typeIs slot_gen_next ?_
  refine wpAny_call_entry slot_gen_next ha.typeIs entry_gen_next ?_ (args_gen_next _)
  show wpAny _ A.in1 (Builtin.Generator.genWake (.ref a) (.send .none)) _ _ s
  unfold Builtin.Generator.genWake
  refine wpAny_bind (wpAny_holding (wpAny_genNumber ha (wpAny_bind (wpAny_genState hg ?_))))
  cases gs with
  | running => exact False.elim h
  | finished => exact False.elim h
  | _ =>
    refine wpAny_bind (wpAny_roomToWake hl hd ?_)
    show wpAny _ A.in1 (.resume g (.send .none) [] _) _ _ s
    refine wpAny_wake hg h hq fun e s1 he => ?_
    cases e with
    | susp v gd l k c p fs => exact wpAny_pure ⟨v, rfl, hs v gd l k c p fs s1 he⟩
    | ret r =>
      obtain ⟨hr1, hr2⟩ := hr r s1 he
      have er : (End.ret r).result = .returned .none := by rcases hr1 with z | z <;> rw [z] <;> rfl
      rw [er]
      show wpAny _ A.in1 (newExc (.type "StopIteration") [] >>= _) _ _ _
      refine wpAny_bind ?_
      unfold newExc newTuple
      refine wpAny_bind (wpAny_newObj_type ?_ (by size_fits))
      refine wpAny_bind (m := firstArgMember _ _) (wpAny_of_eq (a := Value.none) (by rfl) ?_)
      refine wpAny_newObj_type ?_ (by size_fits)
      unfold raiseNew
      refine wpAny_bind (wpAny_bind (wpAny_handled ?_))
      rw [show A.in1.handled = none from hh]
      refine wpAny_throw ?_
      exact hr2 _ _ (fun b o hb => Heap.get?_push_of_some _ (Heap.get?_push_of_some _ hb)) ⟨_, _, rfl, Heap.get?_push_size _ rfl, rfl⟩
/-- next(..) by what __next__ does -/
theorem next_of_special {M : Model} {A : Around} {a : Addr} {Q : Option Value → Shared → Prop} {E : Value → Shared → Prop} {s : Shared} (h : wpAny M A (callSpecial? (.ref a) "__next__") (fun v s' => v ≠ none ∧ Q v s') (fun e s' => Stopped e s'.heap ∧ Q none s') s) :
    wpAny M A (pyNext (.ref a)) Q E s := by
  unfold pyNext
  refine wpAny_bind (wpAny_attempt (wpAny_mono h (fun v s' q => ?_) fun e s' q => ?_))
  · cases v with
    | none => exact absurd rfl q.1
    | some v => exact wpAny_pure q.2
  · obtain ⟨⟨b, o, rfl, ho, hc⟩, q⟩ := q
    exact wpAny_bind (wpAny_isInstance (T := "StopIteration") (b := true) ⟨o, ho, hc⟩ isSubtype_stop (wpAny_pure q))
theorem nextOf_of_special {M : Model} {A : Around} {a : Addr} {Q : Value → Shared → Prop} {E : Value → Shared → Prop} {s : Shared} (h : wpAny M A (callSpecial? (.ref a) "__next__") (fun v s' => ∃ u, v = some u ∧ Q u s') E s) :
    wpAny M A (Builtin.SmallTypes.nextOf (.ref a)) Q E s := by
  unfold Builtin.SmallTypes.nextOf
  refine wpAny_bind (wpAny_mono h (fun v s' q => ?_) fun _ _ z => z)
  obtain ⟨u, rfl, q⟩ := q
  exact wpAny_pure q
end Hd
set_option maxHeartbeats 4000000
/-! A generator's frame while others run: its own objects (its names, its cells) are held by the table of what is known, one by one, as they stand; when it is woken
its invariant is begun anew, from the heap below its frame as it then is, all that others made in between known as it stands. -/
namespace Hd
open PySem PySem.Spec PyProof.Rows L2

/-- the heap below L -/
def cut (h : Heap) (L : Nat) : Heap := ⟨h.objs.extract 0 L, h.life⟩
theorem cut_size {h : Heap} {L : Nat} (hL : L ≤ h.objs.size) : (cut h L).objs.size = L := by
  show (h.objs.extract 0 L).size = L
  rw [Array.size_extract]
  omega
theorem cut_lo {h : Heap} {L b : Nat} (hL : L ≤ h.objs.size) (hb : b < L) : (cut h L).get? b = h.get? b := by
  unfold Heap.get? cut
  have e : (h.objs.extract 0 L)[b]? = h.objs[b]? := by
    rw [Array.getElem?_extract, if_pos (by omega)]
    rw [Nat.zero_add]
  simp only [e]
theorem cut_at {h : Heap} {L b : Nat} {o : Obj} (hL : L ≤ h.objs.size) (e : (cut h L).get? b = some o) : b < L ∧ h.get? b = some o := by
  have hb : b < L := by
    have := Heap.lt_size e
    rw [cut_size hL] at this
    exact this
  exact ⟨hb, by rw [← cut_lo hL hb]; exact e⟩

/-- what is known of stands -/
theorem obj_at {P : Program} {w : World} {H : Hp} {h : Heap} {a : Addr} {o : HO} (x : ObjOk P w H h a o) : ∃ ob, h.get? a = some ob := by
  cases o with
  | lst xs => obtain ⟨_, _, _, _, e⟩ := x; exact ⟨_, e⟩
  | tup xs => obtain ⟨_, _, _, ob, e, _⟩ := x; exact ⟨ob, e⟩
  | dK kvs => obtain ⟨_, _, _, _, o, _, _, e, _⟩ := x; exact ⟨_, e⟩
  | dT kvs => obtain ⟨_, _, _, _, o, _, _, e, _⟩ := x; exact ⟨_, e⟩
  | set S n => obtain ⟨o, _, _, _, e, _⟩ := x; exact ⟨_, e⟩
  | ins C dx fs => obtain ⟨_, _, _, e, _⟩ := x; exact ⟨_, e⟩
  | own y => exact x
  | xd fs => obtain ⟨_, ⟨_, _, _, e, _⟩, _⟩ := x; exact ⟨_, e⟩
  | rng lo hi => obtain ⟨_, _, _, e⟩ := x; exact ⟨_, e⟩
  | frz ob u => exact ⟨ob, x.1⟩
  | tbl ps => exact ⟨_, x⟩
  | met f y => exact ⟨_, x⟩
  | ext φ => exact x.2.1
/-- this very object -/
abbrev extO (b : Addr) (o : Obj) : HO := .ext fun h => h.get? b = some o
theorem extO_ok {P : Program} {w : World} {H : Hp} {h : Heap} {b : Addr} {o : Obj} (e : h.get? b = some o) : ObjOk P w H h b (extO b o) :=
  ⟨e, ⟨o, e⟩, fun _ _ h1 k => k o h1⟩
theorem extO_at {P : Program} {w : World} {H : Hp} {h : Heap} {b : Addr} {o : Obj} (x : HOk P w H h) (e : H b = some (extO b o)) : h.get? b = some o := (x b _ e).1

/-- within: its own objects are free, what others made stands as it is -/
def inn (prv : List Addr) (L : Nat) (h : Heap) (H : Hp) : Hp := fun b =>
  if b ∈ prv then none else match H b with
    | some o => some o
    | none => if L ≤ b then (h.get? b).map (extO b) else none
/-- without: its own objects as they stand; what was not known of others is not known -/
def outp (prv : List Addr) (L : Nat) (h2 : Heap) (H2 : Hp) (h3 : Heap) (H3 : Hp) : Hp := fun b =>
  if b ∈ prv then (h3.get? b).map (extO b) else if ((H2 b).isNone && (decide (L ≤ b) && (h2.get? b).isSome)) = true then none else H3 b
section
variable {prv : List Addr} {L : Nat} {h h2 h3 : Heap} {H H2 H3 : Hp} {b : Addr} {o : HO}
theorem inn_prv (hb : b ∈ prv) : inn prv L h H b = none := by unfold inn; rw [if_pos hb]
theorem inn_some (hb : b ∉ prv) (e : H b = some o) : inn prv L h H b = some o := by unfold inn; rw [if_neg hb, e]
theorem inn_lo (hb : b < L) (e : H b = none) : inn prv L h H b = none := by
  unfold inn
  split
  · rfl
  · rw [e]
    show (if L ≤ b then _ else none) = none
    rw [if_neg (Nat.not_le.mpr hb)]
theorem inn_hi {ob : Obj} (hp : b ∉ prv) (hb : L ≤ b) (e : H b = none) (q : h.get? b = some ob) : inn prv L h H b = some (extO b ob) := by
  unfold inn
  rw [if_neg hp, e]
  show (if L ≤ b then _ else none) = _
  rw [if_pos hb, q]
  rfl
theorem of_inn (e : inn prv L h H b = some o) : b ∉ prv ∧ (H b = some o ∨ (H b = none ∧ L ≤ b ∧ ∃ ob, h.get? b = some ob ∧ o = extO b ob)) := by
  unfold inn at e
  split at e
  · cases e
  · rename_i hp
    refine ⟨hp, ?_⟩
    cases q : H b with
    | some u => rw [q] at e; exact .inl e
    | none =>
      rw [q] at e
      have e : (if L ≤ b then (h.get? b).map (extO b) else none) = some o := e
      split at e
      · rename_i hb
        cases r : h.get? b with
        | none => rw [r] at e; cases e
        | some ob => rw [r] at e; cases e; exact .inr ⟨rfl, hb, ob, rfl, rfl⟩
      · cases e
theorem inn_ok {P : Program} {w : World} (x : HOk P w H h) (ext : ∀ b ∈ prv, ∃ φ, H b = some (.ext φ)) : HOk P w (inn prv L h H) h := fun a u e => by
  rcases (of_inn e).2 with z | ⟨_, _, ob, q, rfl⟩
  · refine (x a u z).stay (fun _ _ _ y => y) (fun c y => ?_) fun c xs y => ?_
    · refine inn_some (fun hc => ?_) y
      obtain ⟨φ, hφ⟩ := ext c hc
      rw [hφ] at y; cases y
    · refine inn_some (fun hc => ?_) y
      obtain ⟨φ, hφ⟩ := ext c hc
      rw [hφ] at y; cases y
  · exact extO_ok q
end

/-- a generator's body running, its frame at L; nothing is raised -/
def gcx (P : Program) (w : World) (K : PySem.W.Frag) (mg : Str → Option Value) (base : Heap) (N : List Str) (qual : Str) (scope : Scope) (f : Addr) (cd : Value) (A : Around) (outer : List Env) (L : Addr) (s : Shared) (H : Hp) : Cx where
  prog := P
  w := w
  K := K
  mg := mg
  base := base
  A := A.deeper (envOfC qual scope L f cd)
  N := N
  s_0 := s
  H_0 := H
  env := envOfC qual scope L f cd
  outer := outer
  stack := envOfC qual scope L f cd :: outer
  ex := []
  calm := true
  fn := fun _ => true
  pn := []
  xe := fun _ _ => False
/-- its own objects -/
def prvOf (scope : Scope) (L : Addr) : List Addr := L :: (cellsFrom (L + 1) scope.names []).filterMap fun p => (cellsFrom (L + 1) scope.names []).lookup p.1
theorem prv_cell {scope : Scope} {L : Addr} {x : Str} {c : Addr} (e : (cellsFrom (L + 1) scope.names []).lookup x = some c) : c ∈ prvOf scope L :=
  List.mem_cons_of_mem _ (List.mem_filterMap.mpr ⟨(x, c), PySem.mem_of_lookup e, e⟩)
section
variable {P : Program} {w : World} {K : PySem.W.Frag} {mg : Str → Option Value} {base : Heap} {N : List Str} {qual : Str} {scope : Scope} {f : Addr} {cd : Value} {A A1 : Around} {outer : List Env} {L : Addr}
theorem frames_cut {h : Heap} {base : Heap} : ∀ {l : List Env}, L ≤ h.objs.size → (∀ b ∈ frs l, b < L) → h.FunFrames base l → (cut h L).FunFrames base l
  | [], _, _, _ => trivial
  | env :: r, hL, hb, ⟨hk, ⟨a, o, hf, hn, ho, hd⟩, hr⟩ => by
    refine ⟨hk, ⟨a, o, hf, hn, ?_, hd⟩, frames_cut hL (fun b hm => hb b ?_) hr⟩
    · rw [cut_lo hL (hb a (by unfold frs; rw [List.filterMap_cons, hf]; exact List.mem_cons_self))]
      exact ho
    · unfold frs
      rw [List.filterMap_cons]
      cases env.frame with
      | none => exact hm
      | some z => exact List.mem_cons_of_mem _ hm
theorem frames_lo {s0 : Shared} {base : Heap} (hL : s0.heap.objs.size ≤ L) {l : List Env} (h : s0.heap.FunFrames base l) : ∀ b ∈ frs l, b < L := fun b hb => by
  obtain ⟨_, o, ho, _⟩ := h.mem hb
  exact Nat.lt_of_lt_of_le (Heap.lt_size ho) hL
/-- woken: begun anew -/
theorem rebase {s0 s1 s2 : Shared} {H0 H1 H2 : Hp} {pins : List (Addr × Obj)} {σ : L2.St} (I : Inv (gcx P w K mg base N qual scope f cd A1 outer L s0 H0) pins σ H1 s1) (e0 : Env0 P w K mg base A outer s2 H2) (hd : A.handled = none)
    (hsz : s0.heap.objs.size = L) (same : ∀ b ∈ prvOf scope L, s2.heap.get? b = s1.heap.get? b) (ext : ∀ b ∈ prvOf scope L, ∃ φ, H2 b = some (.ext φ)) :
    L ≤ s2.heap.objs.size ∧ Inv (gcx P w K mg base N qual scope f cd A outer L { s2 with heap := cut s2.heap L } (inn (prvOf scope L) L s2.heap H2)) [] σ (inn (prvOf scope L) L s2.heap H2) s2 := by
  obtain ⟨m, hn, hl⟩ := I.loc
  have atL : L ∈ prvOf scope L := List.mem_cons_self
  obtain ⟨oL, es, ep, hoL, rL⟩ := id hn
  have hoL' : s2.heap.get? L = some oL := (same L atL).trans hoL
  have hle : L ≤ s2.heap.objs.size := Nat.le_of_lt (Heap.lt_size hoL')
  have hcs : (cut s2.heap L).objs.size = L := cut_size hle
  have cellK : ∀ x c v, (cellsFrom (L + 1) scope.names []).lookup x = some c → s1.heap.IsCell c v → s2.heap.IsCell c v := fun x c v e ⟨o, ho, hd⟩ => ⟨o, (same c (prv_cell e)).trans ho, hd⟩
  have bL : ∀ b o, base.get? b = some o → b < L := fun b o e => by
    have := Heap.lt_size e
    have h2 := I.ok.bsz
    have h3 : base.objs.size ≤ s0.heap.objs.size := h2
    rw [hsz] at h3
    exact Nat.lt_of_lt_of_le this h3
  have nob : ∀ b : Addr, b ∉ ([] : List Addr) := fun b z => by simp at z
  refine ⟨hle, ⟨e0.mod, I.ok.kind, rfl, rfl, ?_, I.ok.inj, I.ok.has, fun x c z e => ?_, fun _ => hd, Around.frames_deeper e0.frames, .inr ⟨rfl, rfl⟩, fun b z => absurd z (nob b), fun b o e => ?_, ?_, fun b _ _ => nob b, fun b z => absurd z (nob b), ?_, fun b hb => ?_⟩,
    rfl, e0.bare, ?_, ⟨m, ?_, fun i x v h1 h2 h3 => ?_⟩, fun x c e => ?_, inn_prv atL, fun x c e => inn_prv (prv_cell e), fun p hp => absurd (show p ∈ ([] : List (Addr × Obj)) from hp) (by simp), inn_ok e0.hok ext, I.len⟩
  · exact Nat.le_of_eq hcs
  · have q := I.ok.cab x c rfl e
    have q : s0.heap.objs.size ≤ c := q
    show (cut s2.heap L).objs.size ≤ c
    rw [hcs, ← hsz]
    exact q
  · obtain ⟨q1, q2⟩ := e0.bs b o e
    have lt := bL b o e
    exact ⟨(cut_lo hle lt).trans q1, inn_lo lt q2⟩
  · show base.objs.size ≤ (cut s2.heap L).objs.size
    rw [hcs, ← hsz]
    exact I.ok.bsz
  · exact frames_cut hle (frames_lo (Nat.le_of_eq hsz) I.ok.funs) e0.funs
  · exact inn_lo (frames_lo (Nat.le_of_eq hsz) I.ok.funs b hb) (e0.frf b hb)
  · exact Un.kept fun b u q => (cut_at hle q).2
  · exact ⟨oL, es, ep, hoL', rL⟩
  · obtain ⟨u, r, l⟩ := hl i x v h1 h2 h3
    refine ⟨u, r, ?_⟩
    rcases l with l | ⟨k, c, e, z⟩
    · exact .inl l
    · exact .inr ⟨k, c, e, cellK x c _ e z⟩
  · obtain ⟨v, z⟩ := I.cell x c e
    exact ⟨v, cellK x c v e z⟩
/-- it hands out, or it ends: what others see -/
theorem emit {s2 s3 : Shared} {H2 H3 : Hp} {σ : L2.St} (hle : L ≤ s2.heap.objs.size) (J : Inv (gcx P w K mg base N qual scope f cd A outer L { s2 with heap := cut s2.heap L } (inn (prvOf scope L) L s2.heap H2)) [] σ H3 s3)
    (e0 : Env0 P w K mg base A outer s2 H2) (ext : ∀ b ∈ prvOf scope L, ∃ φ, H2 b = some (.ext φ))
    (k1 : ∀ b φ, inn (prvOf scope L) L s2.heap H2 b = some (.ext φ) → H3 b = some (.ext φ)) (k2 : ∀ b, inn (prvOf scope L) L s2.heap H2 b ≠ none → H3 b ≠ none) :
    s3.os = s2.os ∧ AllBare s3.gens ∧ HOk P w (outp (prvOf scope L) L s2.heap H2 s3.heap H3) s3.heap ∧ Un (frs outer) [] H2 (outp (prvOf scope L) L s2.heap H2 s3.heap H3) s2.heap s3.heap ∧
      (∀ b ∈ prvOf scope L, ∃ o, s3.heap.get? b = some o ∧ outp (prvOf scope L) L s2.heap H2 s3.heap H3 b = some (extO b o)) ∧
      (∀ b o, (∀ φ, o ≠ .ext φ) → H3 b = some o → outp (prvOf scope L) L s2.heap H2 s3.heap H3 b = some o) ∧
      ∀ b φ, b ∉ prvOf scope L → H2 b = some (.ext φ) → outp (prvOf scope L) L s2.heap H2 s3.heap H3 b = some (.ext φ) := by
  have hcs : (cut s2.heap L).objs.size = L := cut_size hle
  have prv3 : ∀ b ∈ prvOf scope L, H3 b = none ∧ ∃ o, s3.heap.get? b = some o := fun b hb => by
    rcases List.mem_cons.mp hb with rfl | hb
    · obtain ⟨m, ⟨o, _, _, ho, _⟩, _⟩ := J.loc
      exact ⟨J.free, o, ho⟩
    · obtain ⟨⟨x, c⟩, _, hc⟩ := List.mem_filterMap.mp hb
      obtain ⟨v, o, ho, _⟩ := J.cell x b hc
      exact ⟨J.freeC x b hc, o, ho⟩
  have frs3 : ∀ b ∈ frs outer, b < L := fun b hb => by
    have q := J.ok.funs
    have q : (cut s2.heap L).FunFrames base outer := q
    obtain ⟨_, o, ho, _⟩ := q.mem hb
    have := Heap.lt_size ho
    rw [hcs] at this
    exact this
  -- what is free for others
  have outFree : ∀ b ob, b ∉ prvOf scope L → H2 b = none → L ≤ b → s2.heap.get? b = some ob → outp (prvOf scope L) L s2.heap H2 s3.heap H3 b = none := fun b ob hp h2 hb hb2 => by
    unfold outp
    rw [if_neg hp, h2, hb2]
    simp only [Option.isNone_none, Bool.true_and, decide_eq_true hb, Option.isSome_some, if_true]
  have outKeep : ∀ b, b ∉ prvOf scope L → (H2 b ≠ none ∨ b < L ∨ s2.heap.get? b = none) → outp (prvOf scope L) L s2.heap H2 s3.heap H3 b = H3 b := fun b hp h => by
    unfold outp
    rw [if_neg hp]
    refine if_neg fun z => ?_
    simp only [Bool.and_eq_true, decide_eq_true_eq] at z
    rcases h with h | h | h
    · cases q : H2 b with
      | none => exact h q
      | some u => rw [q] at z; exact nomatch z.1
    · exact absurd z.2.1 (Nat.not_le.mpr h)
    · rw [h] at z; exact nomatch z.2.2
  have outNx : ∀ b o, (∀ φ, o ≠ .ext φ) → H3 b = some o → outp (prvOf scope L) L s2.heap H2 s3.heap H3 b = some o := fun b o nx e => by
    have hp : b ∉ prvOf scope L := fun z => by rw [(prv3 b z).1] at e; cases e
    rw [outKeep b hp ?_]
    · exact e
    · cases q : H2 b with
      | some u => exact .inl (by simp)
      | none =>
        refine .inr ?_
        rcases Nat.lt_or_ge b L with hb | hb
        · exact .inl hb
        · refine .inr ?_
          cases r : s2.heap.get? b with
          | none => rfl
          | some ob =>
            have := k1 b _ (inn_hi hp hb q r)
            rw [e] at this
            cases this
            exact absurd rfl (nx _)
  have outPrv : ∀ b ∈ prvOf scope L, ∃ o, s3.heap.get? b = some o ∧ outp (prvOf scope L) L s2.heap H2 s3.heap H3 b = some (extO b o) := fun b hb => by
    obtain ⟨_, o, ho⟩ := prv3 b hb
    refine ⟨o, ho, ?_⟩
    unfold outp
    rw [if_pos hb, ho]
    rfl
  have outExt : ∀ b φ, b ∉ prvOf scope L → H2 b = some (.ext φ) → outp (prvOf scope L) L s2.heap H2 s3.heap H3 b = some (.ext φ) := fun b φ hp e => by
    rw [outKeep b hp (.inl (by rw [e]; simp))]
    exact k1 b φ (inn_some hp e)
  have nprv : ∀ b u, H2 b = some u → (∀ φ, u ≠ .ext φ) → b ∉ prvOf scope L := fun b u e nx hb => by
    obtain ⟨φ, q⟩ := ext b hb
    rw [e] at q; cases q; exact nx φ rfl
  refine ⟨J.os, J.bare, fun b o e => ?_, ⟨fun b o e n hb _ => ?_, fun b o e n hb _ => ?_, fun b o e n _ => ?_, fun b o e _ => ?_, fun b xs e => ?_, fun b o u e => ?_, fun b ps e => ?_⟩, outPrv, outNx, outExt⟩
  · by_cases hp : b ∈ prvOf scope L
    · obtain ⟨ob, h1, h2⟩ := outPrv b hp
      rw [h2] at e; cases e
      exact extO_ok h1
    · have e3 : H3 b = some o := by
        unfold outp at e
        rw [if_neg hp] at e
        split at e
        · cases e
        · exact e
      exact (J.hok b o e3).stay (fun _ _ _ y => y) (fun c y => outNx c _ (fun φ z => nomatch z) y) fun c xs y => outNx c _ (fun φ z => nomatch z) y
  · have hp : b ∉ prvOf scope L := fun z => by
      obtain ⟨φ, q⟩ := ext b z
      rw [n] at q; cases q
    rcases Nat.lt_or_ge b L with lt | ge
    · exact J.base.keep b o ((cut_lo hle lt).trans e) (inn_lo lt n) hb (by simp [gcx])
    · exact extO_at J.hok (k1 b _ (inn_hi hp ge n e))
  · have lt := frs3 b hb
    exact J.base.slot b o ((cut_lo hle lt).trans e) (inn_lo lt n) hb (by simp [gcx])
  · have hp : b ∉ prvOf scope L := fun z => by
      obtain ⟨φ, q⟩ := ext b z
      rw [n] at q; cases q
    rcases Nat.lt_or_ge b L with lt | ge
    · rw [outKeep b hp (.inr (.inl lt))]
      exact J.base.free b o ((cut_lo hle lt).trans e) (inn_lo lt n) (by simp [gcx])
    · exact outFree b o hp n ge e
  · by_cases hp : b ∈ prvOf scope L
    · exact (prv3 b hp).2
    · rcases Nat.lt_or_ge b L with lt | ge
      · exact J.base.there b o ((cut_lo hle lt).trans e) (by simp [gcx])
      · have q : inn (prvOf scope L) L s2.heap H2 b ≠ none := by
          cases r : H2 b with
          | some u => rw [inn_some hp r]; simp
          | none => rw [inn_hi hp ge r e]; simp
        have q3 := k2 b q
        cases r : H3 b with
        | none => exact absurd r q3
        | some u =>
          exact obj_at (J.hok b u r)
  · have hp := nprv b _ e fun φ z => nomatch z
    rw [outKeep b hp (.inl (by rw [e]; simp))]
    exact J.base.tups b xs (inn_some hp e)
  · have hp := nprv b _ e fun φ z => nomatch z
    rw [outKeep b hp (.inl (by rw [e]; simp))]
    exact J.base.frzs b o u (inn_some hp e)
  · have hp := nprv b _ e fun φ z => nomatch z
    rw [outKeep b hp (.inl (by rw [e]; simp))]
    exact J.base.tbls b ps (inn_some hp e)
end
end Hd
set_option maxHeartbeats 4000000
/-! What a generator promises to whom it is handed: item by item, whatever that one does meanwhile with what is its own (M). -/
namespace Hd
open PySem PySem.Spec PyProof.Rows L2

/-- what is known, but for what is held object by object, is known there too -/
def NX (H H' : Hp) : Prop := ∀ b o, (∀ φ, o ≠ .ext φ) → H b = some o → H' b = some o
theorem NX.rfl' {H : Hp} : NX H H := fun _ _ _ e => e
theorem NX.then {H H1 H2 : Hp} (a : NX H H1) (b : NX H1 H2) : NX H H2 := fun c o n e => b c o n (a c o n e)
/-- .. but for those at M -/
def NXM (M : List Addr) (H H' : Hp) : Prop := ∀ b o, b ∉ M → (∀ φ, o ≠ .ext φ) → H b = some o → H' b = some o
def ButM (M : List Addr) (H H' : Hp) : Prop := ∀ b o, b ∉ M → H b = some o → H' b = some o
/-- a thing that its holder may change: no tuple, nothing locked -/
structure Own (o : HO) : Prop where
  nx : ∀ φ, o ≠ .ext φ
  nt : ∀ xs, o ≠ .tup xs
  nf : ∀ ob u, o ≠ .frz ob u
def MOk (M : List Addr) (H : Hp) : Prop := ∀ b ∈ M, ∃ o, Own o ∧ H b = some o
theorem own_lst {xs : List V} : Own (.lst xs) := ⟨(fun _ z => nomatch z), (fun _ z => nomatch z), (fun _ _ z => nomatch z)⟩
theorem own_dT {kvs : List (List L2.Key × V)} : Own (.dT kvs) := ⟨(fun _ z => nomatch z), (fun _ z => nomatch z), (fun _ _ z => nomatch z)⟩
/-- a generator's promise, turn by turn: woken at Hw it hands out x at H; it ends -/
structure GPr where
  out : Nat → Hp → V → Hp → Prop
  fin : Nat → Hp → Hp → Prop
/-- what the one who waked it sees -/
structure Seen (P : Program) (w : World) (outer : List Env) (a : Addr) (go : Obj) (s2 : Shared) (H2 : Hp) (s3 : Shared) (H3 : Hp) : Prop where
  os : s3.os = s2.os
  bare : AllBare s3.gens
  hok : HOk P w H3 s3.heap
  un : Un (frs outer) [] H2 H3 s2.heap s3.heap
  obj : H3 a = some (extO a go)
structure Ready (P : Program) (w : World) (K : PySem.W.Frag) (mg : Str → Option Value) (base : Heap) (A : Around) (outer : List Env) (os : OsState) (M : List Addr) (Hy : Hp) (s2 : Shared) (H2 : Hp) : Prop where
  env : Env0 P w K mg base A outer s2 H2
  os : s2.os = os
  but : ButM M Hy H2
  mok : MOk M H2
/-- it sleeps: m turns are left, this is turn i, Hy was known when it fell asleep -/
def Slp (P : Program) (w : World) (K : PySem.W.Frag) (mg : Str → Option Value) (base : Heap) (A : Around) (outer : List Env) (os : OsState) (a : Addr) (go : Obj) (M : List Addr) (G : GPr) : Nat → Nat → GenState → Hp → Prop
  | 0, i, gs, Hy => Hy a = some (extO a go) ∧ ∀ s2 H2, Ready P w K mg base A outer os M Hy s2 H2 → GoS (model P w) A gs s2 fun e s3 => ∃ r, e = .ret r ∧ (r = .ok (.ret .none) ∨ r = .ok .next) ∧
      ∃ H3 Hw Hi, Seen P w outer a go s2 H2 s3 H3 ∧ NX H2 Hw ∧ G.fin i Hw Hi ∧ NX Hi H3
  | m + 1, i, gs, Hy => Hy a = some (extO a go) ∧ ∀ s2 H2, Ready P w K mg base A outer os M Hy s2 H2 → GoS (model P w) A gs s2 fun e s3 => ∃ v l k c p fs, e = .susp v false l k c p fs ∧ fs.any Frame.guarded = false ∧
      ∃ x H3 Hw Hi, RelV x v ∧ Seen P w outer a go s2 H2 s3 H3 ∧ NX H2 Hw ∧ G.out i Hw x Hi ∧ NX Hi H3 ∧ Slp P w K mg base A outer os a go M G m (i + 1) (.suspended k l c p fs false) H3
/-- what the generator keeps of what is held object by object, and that nothing known is lost -/
def Kp (Hw H : Hp) : Prop := (∀ b φ, Hw b = some (.ext φ) → H b = some (.ext φ)) ∧ ∀ b, Hw b ≠ none → H b ≠ none
theorem Kp.rfl' {H : Hp} : Kp H H := ⟨fun _ _ e => e, fun _ e => e⟩
theorem Kp.same {H H' : Hp} (h : Same H H') : Kp H H' := ⟨fun b φ e => h b _ e, fun b e => by
  cases q : H b with
  | none => exact absurd q e
  | some u => rw [h b u q]; simp⟩
theorem Kp.then {H H1 H2 : Hp} (a : Kp H H1) (b : Kp H1 H2) : Kp H H2 := ⟨fun c φ e => b.1 c φ (a.1 c φ e), fun c e => b.2 c (a.2 c e)⟩
theorem Kp.upd {H : Hp} {b : Addr} {o u : HO} (e : H b = some o) (n : ∀ φ, o ≠ .ext φ) : Kp H (upd H b u) := by
  refine ⟨fun c φ q => ?_, fun c q => ?_⟩
  · rw [upd_ne]
    · exact q
    · rintro rfl
      rw [e] at q; cases q; exact n φ rfl
  · unfold L2.upd
    split
    · simp
    · exact q

/-- what a turn's end does -/
def turnEnd (test : Expr) (body : List Stmt) (env : Env) : Flow → Sem PySem.Fin
  | .next => .pure (.again (.whileLoop test body [] env))
  | .cont => .pure (.again (.whileLoop test body [] env))
  | .brk => .pure (.done .next)
  | .ret v => .pure (.done (.ret v))
theorem sg_loop {P : Program} {w : World} {A : Around} {fs : List Frame} {env : Env} (test : Expr) (body : List Stmt) : ∃ J : Value → Sem PySem.Fin, ∀ (s : Shared) (F : End → Shared → Prop),
    wpAny (model P w) (A.over (.whileLoop test body [] env) fs) (isTrue test env (eval test env)) (fun b s' => if b = true then
        Sg (model P w) A (.whileLoop test body [] env) ((execs body env).wrap (turnEnd test body env) J id id) fs s' F
      else Sg (model P w) A (.whileLoop test body [] env) (.pure (.done .next)) fs s' F) (fun _ _ => False) s → Sg (model P w) A (.whileLoop test body [] env) ((model P w).den (.whileLoop test body [] env)) fs s F := by
  refine ⟨?_, fun s F h => ?_⟩
  rotate_left
  · show Sg _ A _ ((whileTurn test body [] env).onRaise (fun x => do noteFrame x env; theTreesLotGoes x)) fs s F
    unfold whileTurn
    rw [Sem.onRaise_eq_wrap, Sem.bind_eq_wrap', Sem.wrap_wrap]
    refine sg_wrap (wpAny_mono h (fun b s' q => ?_) fun _ _ z => z.elim)
    cases b with
    | true =>
      rw [if_pos rfl] at q
      show Sg _ A _ (Sem.wrap _ _ _ _ (if true = true then _ else _)) fs s' F
      rw [if_pos rfl, Sem.bind_eq_wrap', Sem.wrap_wrap]
      rw [Sem.wrap_congr (execs body env) _ _ (K' := turnEnd test body env) (fun f => by cases f <;> rfl) (fun _ => rfl)]
      exact q
    | false =>
      rw [if_neg Bool.false_ne_true] at q
      show Sg _ A _ (Sem.wrap _ _ _ _ (if false = true then _ else _)) fs s' F
      rw [if_neg Bool.false_ne_true, Sem.bind_eq_wrap', Sem.wrap_wrap]
      exact q
section
variable {P : Program} {w : World} {K : PySem.W.Frag} {mg : Str → Option Value} {base : Heap} {N : List Str} {qual : Str} {scope : Scope} {f : Addr} {cd : Value} {A A1 : Around} {outer : List Env} {L a : Addr} {go : Obj} {os : OsState} {M : List Addr}
theorem inn_nx {prv : List Addr} {h : Heap} {H : Hp} (ext : ∀ b ∈ prv, ∃ φ, H b = some (.ext φ)) : NX H (inn prv L h H) := fun b o n e => inn_some (fun hb => by
  obtain ⟨φ, q⟩ := ext b hb
  rw [e] at q; cases q; exact n φ rfl) e
/-- the body of such a generator, piece by piece: the start, then while test: yield e; rest -/
structure Loop (P : Program) (w : World) (K : PySem.W.Frag) (mg : Str → Option Value) (base : Heap) (N : List Str) (qual : Str) (scope : Scope) (f : Addr) (cd : Value) (A : Around) (outer : List Env) (L : Addr) (test ye : Expr) (rest : List Stmt) (c : TT) (ty : TE) (tr : TS) : Prop where
  c : ∀ s H, PT (gcx P w K mg base N qual scope f cd A outer L s H) test c
  y : ∀ s H, PE (gcx P w K mg base N qual scope f cd A outer L s H) ye ty
  r : ∀ s H, PSs (gcx P w K mg base N qual scope f cd A outer L s H) rest tr
/-- what the turns are worth -/
structure Turns (M : List Addr) (G : GPr) (n : Nat) (W : Nat → Hp → L2.St → Hp → Prop) (c : TT) (ty : TE) (tr : TS) : Prop where
  turn : ∀ i Hw σ H, W i Hw σ H → c σ H fun b H1 => if b = true then i < n ∧ ty σ H1 fun x H2 => Kp Hw H2 ∧ G.out i Hw x H2 ∧ ∀ Hw2, NXM M H2 Hw2 → MOk M Hw2 → tr { nx := fun σ' H3 => W (i + 1) Hw2 σ' H3, rt := fun _ _ => False } σ Hw2
    else i = n ∧ Kp Hw H1 ∧ G.fin i Hw H1

theorem seen_of {s2 s3 : Shared} {H2 H3 : Hp} {σ : L2.St} (hle : L ≤ s2.heap.objs.size) (J : Inv (gcx P w K mg base N qual scope f cd A outer L { s2 with heap := cut s2.heap L } (inn (prvOf scope L) L s2.heap H2)) [] σ H3 s3)
    (e0 : Env0 P w K mg base A outer s2 H2) (ext : ∀ b ∈ prvOf scope L, ∃ φ, H2 b = some (.ext φ)) (ha : a ∉ prvOf scope L) (Ha : H2 a = some (extO a go)) (kp : Kp (inn (prvOf scope L) L s2.heap H2) H3) :
    Seen P w outer a go s2 H2 s3 (outp (prvOf scope L) L s2.heap H2 s3.heap H3) ∧ NX H3 (outp (prvOf scope L) L s2.heap H2 s3.heap H3) ∧ ∀ b ∈ prvOf scope L, ∃ o, s3.heap.get? b = some o ∧ outp (prvOf scope L) L s2.heap H2 s3.heap H3 b = some (extO b o) := by
  obtain ⟨q1, q2, q3, q4, q5, q6, q7⟩ := emit hle J e0 ext kp.1 kp.2
  exact ⟨⟨q1, q2, q3, q4, q7 a _ ha Ha⟩, fun b o n e => q6 b o n e, q5⟩
/-- what a segment ends in -/
def Fp (P : Program) (w : World) (K : PySem.W.Frag) (mg : Str → Option Value) (base : Heap) (A : Around) (outer : List Env) (os : OsState) (a : Addr) (go : Obj) (M : List Addr) (G : GPr) (s2 : Shared) (H2 : Hp) : Nat → Nat → End → Shared → Prop
  | 0, i, e, s3 => ∃ r, e = .ret r ∧ (r = .ok (.ret .none) ∨ r = .ok .next) ∧ ∃ H3 Hw Hi, Seen P w outer a go s2 H2 s3 H3 ∧ NX H2 Hw ∧ G.fin i Hw Hi ∧ NX Hi H3
  | m + 1, i, e, s3 => ∃ v l k c p fs, e = .susp v false l k c p fs ∧ fs.any Frame.guarded = false ∧
      ∃ x H3 Hw Hi, RelV x v ∧ Seen P w outer a go s2 H2 s3 H3 ∧ NX H2 Hw ∧ G.out i Hw x Hi ∧ NX Hi H3 ∧ Slp P w K mg base A outer os a go M G m (i + 1) (.suspended k l c p fs false) H3
theorem slp_of {G : GPr} {m i : Nat} {gs : GenState} {Hy : Hp} (Ha : Hy a = some (extO a go)) (h : ∀ s2 H2, Ready P w K mg base A outer os M Hy s2 H2 → GoS (model P w) A gs s2 (Fp P w K mg base A outer os a go M G s2 H2 m i)) :
    Slp P w K mg base A outer os a go M G m i gs Hy := by
  cases m with
  | zero => exact ⟨Ha, h⟩
  | succ m => exact ⟨Ha, h⟩
/-- from the test of turn i on, m turns to come -/
theorem turns_run {test ye : Expr} {yp ypos : Pos} {rest : List Stmt} {c : TT} {ty : TE} {tr : TS} {G : GPr} {n : Nat} {W : Nat → Hp → L2.St → Hp → Prop} (hd : A.handled = none) (ha : a ∉ prvOf scope L) (hM : ∀ b ∈ M, b ∉ prvOf scope L ∧ b ≠ a)
    (B : Loop P w K mg base N qual scope f cd A outer L test ye rest c ty tr) (T : Turns M G n W c ty tr) (hco : scope.isCoroutine = false) (hk : scope.kind = .function) {fs : List Frame}
    (hov : A.over (.whileLoop test (.Expr (.Yield (some ye) yp) ypos :: rest) [] (envOfC qual scope L f cd)) fs = A.deeper (envOfC qual scope L f cd)) (hsp : splitAtGen fs = none) (hgd : fs.any Frame.guarded = false)
    (hend : ∀ (s : Shared) (F : End → Shared → Prop), F (.ret (.ok (.ret .none))) s → Sg (model P w) A (.whileLoop test (.Expr (.Yield (some ye) yp) ypos :: rest) [] (envOfC qual scope L f cd)) (.pure (.done .next)) fs s F) :
    ∀ (m i : Nat) (s2 s : Shared) (H2 H' : Hp) (σ : L2.St), i + m = n → L ≤ s2.heap.objs.size → Env0 P w K mg base A outer s2 H2 → s2.os = os → (∀ b ∈ prvOf scope L, ∃ φ, H2 b = some (.ext φ)) → H2 a = some (extO a go) →
      Inv (gcx P w K mg base N qual scope f cd A outer L { s2 with heap := cut s2.heap L } (inn (prvOf scope L) L s2.heap H2)) [] σ H' s → W i (inn (prvOf scope L) L s2.heap H2) σ H' →
      Sg (model P w) A (.whileLoop test (.Expr (.Yield (some ye) yp) ypos :: rest) [] (envOfC qual scope L f cd)) ((model P w).den (.whileLoop test (.Expr (.Yield (some ye) yp) ypos :: rest) [] (envOfC qual scope L f cd))) fs s
        (Fp P w K mg base A outer os a go M G s2 H2 m i) := by
  obtain ⟨Jx, hJ⟩ := sg_loop (P := P) (w := w) (A := A) (fs := fs) (env := envOfC qual scope L f cd) test (.Expr (.Yield (some ye) yp) ypos :: rest)
  intro m
  induction m with
  | zero =>
    intro i s2 s H2 H' σ hi hle e0 hos ext Ha J wi
    refine hJ s _ ?_
    rw [hov]
    refine wpAny_mono ((B.c _ _).run [] s σ H' _ J (T.turn i _ σ H' wi)) (fun b s' q => ?_) fun _ _ z => z
    obtain ⟨H1, J1, q⟩ := q
    cases b with
    | true => exact absurd q.1 (by omega)
    | false =>
      rw [if_neg Bool.false_ne_true] at q ⊢
      obtain ⟨_, kp, hf⟩ := q
      obtain ⟨sn, nx, _⟩ := seen_of hle J1 e0 ext ha Ha kp
      exact hend s' _ ⟨_, rfl, .inl rfl, _, _, _, sn, inn_nx ext, hf, nx⟩
  | succ m ih =>
    intro i s2 s H2 H' σ hi hle e0 hos ext Ha J wi
    refine hJ s _ ?_
    rw [hov]
    refine wpAny_mono ((B.c _ _).run [] s σ H' _ J (T.turn i _ σ H' wi)) (fun b s' q => ?_) fun _ _ z => z
    obtain ⟨H1, J1, q⟩ := q
    cases b with
    | false =>
      rw [if_neg Bool.false_ne_true] at q
      exact absurd q.1 (by omega)
    | true =>
      rw [if_pos rfl] at q ⊢
      refine sg_cons (sg_yield hsp ?_ hco (by simp [interactive, envOfC, hk]))
      rw [hov]
      refine wpAny_mono ((B.y _ _).run [] s' σ H1 _ J1 q.2) (fun v s3 q => ?_) fun _ _ z => False.elim z
      obtain ⟨x, H3, J3, rv, kp, ho, wake⟩ := q
      intro k l p hk'
      obtain ⟨sn, nx, prv3⟩ := seen_of hle J3 e0 ext ha Ha kp
      refine ⟨v, l, k, _, p, fs, rfl, hgd, x, _, _, _, rv, sn, inn_nx ext, ho, nx, slp_of sn.obj fun s5 H5 R => ?_⟩
      show Sg _ _ _ (k (.send .none)) fs s5 _
      refine hk' s5 _ ?_
      have at5 : ∀ b ∈ prvOf scope L, ∃ o, s3.heap.get? b = some o ∧ H5 b = some (extO b o) := fun b hb => by
        obtain ⟨o, e1, e2⟩ := prv3 b hb
        exact ⟨o, e1, R.but b _ (fun z => (hM b z).1 hb) e2⟩
      obtain ⟨hle5, I5⟩ := rebase J3 R.env hd (cut_size hle) (fun b hb => by
        obtain ⟨o, e1, e2⟩ := at5 b hb
        rw [e1]; exact extO_at R.env.hok e2) fun b hb => by
        obtain ⟨o, _, e2⟩ := at5 b hb
        exact ⟨_, e2⟩
      have ext5 : ∀ b ∈ prvOf scope L, ∃ φ, H5 b = some (.ext φ) := fun b hb => by
        obtain ⟨o, _, e2⟩ := at5 b hb
        exact ⟨_, e2⟩
      have nxm : NXM M H3 (inn (prvOf scope L) L s5.heap H5) := fun b o hb n e => inn_nx ext5 b o n (R.but b o hb (nx b o n e))
      have mok : MOk M (inn (prvOf scope L) L s5.heap H5) := fun b hb => by
        obtain ⟨o, n, e⟩ := R.mok b hb
        exact ⟨o, n, inn_nx ext5 b o n.nx e⟩
      show Sg _ _ _ ((execs rest _).wrap _ _ _ _) fs s5 _
      refine sg_wrap ?_
      rw [hov]
      refine wpAny_mono ((B.r _ _).run [] s5 σ _ { nx := fun σ' H3 => W (i + 1) (inn (prvOf scope L) L s5.heap H5) σ' H3, rt := fun _ _ => False } I5 (wake _ nxm mok)) (fun fl s6 hs => ?_) fun _ _ z => False.elim z
      cases fl with
      | next =>
        obtain ⟨σ6, H6, J6, w6⟩ := hs
        exact sg_again rfl (ih (i + 1) s5 s6 H5 H6 σ6 (by omega) hle5 R.env R.os ext5 (R.but a _ (fun z => (hM a z).2 rfl) sn.obj) J6 w6)
      | brk => obtain ⟨_, _, _, z⟩ := hs; exact False.elim z
      | cont => obtain ⟨_, _, _, z⟩ := hs; exact False.elim z
      | ret u => obtain ⟨_, _, _, _, _, z⟩ := hs; exact False.elim z
end
end Hd
set_option maxHeartbeats 4000000
/-! A generator def of the form: some statements, then while test: yield e; .. -/
namespace Hd
open PySem PySem.Spec PyProof.Rows L2

/-- statements ahead of the loop, each by its rule -/
inductive Pre (C : Shared → Hp → Cx) : List Stmt → TS → Prop
  | nil : Pre C [] tNext
  | cons {st : Stmt} {rest : List Stmt} {t u : TS} (h : ∀ s H, PS (C s H) st t) (r : Pre C rest u) : Pre C (st :: rest) (tSeq t u)
section
variable {P : Program} {w : World} {K : PySem.W.Frag} {mg : Str → Option Value} {base : Heap} {N : List Str} {qual : Str} {scope : Scope} {f : Addr} {cd : Value} {A : Around} {outer : List Env} {L : Addr}
theorem sg_pre {c : Code} {fs : List Frame} {F : End → Shared → Prop} {Kf : Flow → Sem PySem.Fin} {J : Value → Sem PySem.Fin} {gd : Bool → Bool} {lv : List Value → List Value} {tail : List Stmt} {Z : L2.St → Hp → Prop} {s0 : Shared} {H0 : Hp}
    (hov : A.over c fs = A.deeper (envOfC qual scope L f cd))
    (ht : ∀ (s : Shared) (σ : L2.St) (H : Hp), Inv (gcx P w K mg base N qual scope f cd A outer L s0 H0) [] σ H s → Z σ H → Sg (model P w) A c ((execs tail (envOfC qual scope L f cd)).wrap Kf J gd lv) fs s F) :
    ∀ {pre : List Stmt} {t : TS}, Pre (gcx P w K mg base N qual scope f cd A outer L) pre t → ∀ (s : Shared) (σ : L2.St) (H : Hp), Inv (gcx P w K mg base N qual scope f cd A outer L s0 H0) [] σ H s → t { nx := Z, rt := fun _ _ => False } σ H →
      Sg (model P w) A c ((execs (pre ++ tail) (envOfC qual scope L f cd)).wrap Kf J gd lv) fs s F := by
  intro pre t hp
  induction hp with
  | nil => exact fun s σ H I h => ht s σ H I h
  | @cons st rest t u h r ih =>
    intro s σ H I hq
    show Sg _ _ _ ((execs (st :: (rest ++ tail)) _).wrap Kf J gd lv) fs s F
    refine sg_cons (sg_wrap ?_)
    rw [hov]
    refine wpAny_mono ((h s0 H0).run [] s σ H { nx := u { nx := Z, rt := fun _ _ => False }, rt := fun _ _ => False } I hq) (fun fl s1 q => ?_) fun _ _ z => False.elim z
    cases fl with
    | next =>
      obtain ⟨σ1, H1, I1, q1⟩ := q
      exact ih s1 σ1 H1 I1 q1
    | brk => obtain ⟨_, _, _, z⟩ := q; exact False.elim z
    | cont => obtain ⟨_, _, _, z⟩ := q; exact False.elim z
    | ret u => obtain ⟨_, _, _, _, _, z⟩ := q; exact False.elim z
theorem sg_body {body : List Stmt} {env : Env} {s : Shared} {F : End → Shared → Prop} (h : ∀ J, Sg (model P w) A (.func body env) ((execs body env).wrap (fun fl => .pure (.done (.ret (match fl with | .ret v => v | _ => .none)))) J id id) [] s F) :
    Sg (model P w) A (.func body env) ((model P w).den (.func body env)) [] s F := by
  show Sg _ A _ (.point [] fun _ => ((execs body env).onRaise (leaving env)) >>= _) [] s F
  refine sg_point ?_
  rw [Sem.onRaise_eq_wrap, Sem.bind_eq_wrap', Sem.wrap_wrap]
  rw [Sem.wrap_congr (execs body env) _ _ (K' := fun fl => (.pure (.done (.ret (match fl with | .ret v => v | _ => .none))) : Sem PySem.Fin)) (fun fl => by cases fl <;> rfl) (fun _ => rfl)]
  exact h _
/-- a generator is there: asleep, whatever its keeper calls his own -/
structure Made (P : Program) (w : World) (K : PySem.W.Frag) (mg : Str → Option Value) (base : Heap) (k : Nat) (outer : List Env) (s : Shared) (H : Hp) (G : List Addr → GPr) (n : Nat) (a g : Nat) (go : Obj) (gs : GenState) (H' : Hp) (s' : Shared) : Prop where
  os : s'.os = s.os
  bare : AllBare s'.gens
  hok : HOk P w H' s'.heap
  un : Un (frs outer) [] H H' s.heap s'.heap
  same : Same H H'
  news : ∀ b, H b = none → H' b = none ∨ ∃ φ, H' b = some (.ext φ)
  isgen : ∀ h : Heap, h.get? a = some go → h.IsGen a g
  obj : H' a = some (extO a go)
  gen : s'.gens[g]? = some gs
  slp : ∀ (M : List Addr) (A' : Around), Room k A' → A'.frames = some outer → (∀ b ∈ M, ∀ o, H' b = some o → Own o) → Slp P w K mg base A' outer s.os a go M (G M) n 0 gs H'
abbrev SpN := List V → Hp → (List Addr → GPr) → Nat → Prop
structure GDef (P : Program) (w : World) (K : PySem.W.Frag) (mg : Str → Option Value) (base : Heap) (k : Nat) (f : Addr) (fd : FuncData) (ps : List Str) (sp : SpN) : Prop where
  len : ∀ vs H G n, sp vs H G n → vs.length = ps.length
  run : ∀ (A : Around) (outer : List Env) (s : Shared) (H : Hp) (args : Args) (us : List Value) (vs : List V) (G : List Addr → GPr) (n : Nat), Room k A → Env0 P w K mg base A outer s H → BindsTo s fd args (ps.zip us) → Vals vs us → sp vs H G n →
    codeAny (model P w) A (.call (.ref f) args) (fun r s' => ∃ a g go gs H', r = .ok (.ret (.ref a)) ∧ Made P w K mg base k outer s H G n a g go gs H' s') s
end
section
variable {P : Program} {w : World} {K : PySem.W.Frag} {mg : Str → Option Value} {base : Heap}
/-- THE RULE -/
theorem gdef_of {k : Nat} {f : Addr} {name qual : Str} {params : Arguments} {body pre rest : List Stmt} {test ye : Expr} {yp ypos wp : Pos} {scope : Scope} {dV kV doc pm cdv ct oc : Value} {an od : Option Addr}
    {osl : Array (Option Value)} {N ps : List Str} {sp : SpN} (lk : K.lookup f = some ⟨oc, od, .func (PySem.W.fnOf name qual params body scope dV kV doc pm an cdv ct), osl⟩) (hcd : PySem.W.codeIn K cdv qual = true) (S : GScope N ps scope)
    (hbd : body = pre ++ [.While test (.Expr (.Yield (some ye) yp) ypos :: rest) [] wp])
    (len : ∀ vs H G n, sp vs H G n → vs.length = ps.length)
    (hbody : ∀ (A : Around) (outer : List Env) (L : Addr), Room k (A.deeper (envOfC qual scope L f cdv)) →
      ∃ t c ty tr, Pre (gcx P w K mg base N qual scope f cdv A outer L) pre t ∧ Loop P w K mg base N qual scope f cdv A outer L test ye rest c ty tr ∧
        ∀ vs H G n, sp vs H G n → ∀ M : List Addr, (∀ b ∈ M, ∀ o, H b = some o → Own o) → ∃ W : Nat → Hp → L2.St → Hp → Prop, Turns M (G M) n W c ty tr ∧ ∀ Hw, NXM M H Hw → MOk M Hw → t { nx := fun σ' H' => W 0 Hw σ' H', rt := fun _ _ => False } (start N vs) Hw) :
    GDef P w K mg base (k + 1) f (PySem.W.fnOf name qual params body scope dV kV doc pm an cdv ct) ps sp := by
  refine ⟨len, fun A outer s H args us vs G n hr e0 hb r hsp => ?_⟩
  have hl := len _ _ _ _ hsp
  have KX : K.In s.heap := e0.mod.kin.keeps fun b o e => (e0.bs b o e).1
  have lim : s.heap.NoLimit := e0.mod.nolimit.keeps fun b o e => (e0.bs b o e).1
  have hkind : ∀ y ∈ ps.zip us, scope.names.lookup y.1 = some .local ∨ (scope.names.lookup y.1 = some .cell ∧ ((cellsFrom (s.heap.objs.size + 1) scope.names []).lookup y.1).isSome = true) := by
    rintro ⟨nm, v⟩ hy
    rcases S.par nm (List.of_mem_zip hy).1 with q | q
    · exact .inl q
    · exact .inr ⟨q, PySem.W.cellsFrom_some _ _ _ (.inl q)⟩
  refine codeAny_call_generator hr.depth (KX _ _ lk) rfl S.co S.gen rfl (PySem.W.codeRec_of KX hcd) (hb _ _ _ _ ?_)
  refine wpAny_newFunctionEnv_cells S.kind hkind fun env he s1 x => ?_
  subst he
  refine ⟨lim.keeps x.toInCall.keep, ?_⟩
  obtain ⟨h1, tk, es1, hk1⟩ := x.done
  have lt1 : s.heap.objs.size < s1.heap.objs.size := x.toInCall.ns.lt
  have kp1 : ∀ b o, s.heap.get? b = some o → s1.heap.get? b = some o := x.toInCall.keep
  have I0 : Inv (gcxOf P w K mg base N qual scope f cdv A outer s H (fun _ _ _ => False) []) [] (start N vs) H s1 := inv_startG S hr.hd e0 hl r x
  have I1 : Inv (gcx P w K mg base N qual scope f cdv A outer s.heap.objs.size s H) [] (start N vs) H s1 := I0.wish fun _ _ => False
  have prv1 : ∀ b ∈ prvOf scope s.heap.objs.size, H b = none ∧ b < s1.heap.objs.size ∧ s.heap.objs.size ≤ b ∧ ∃ o, s1.heap.get? b = some o := fun b hb => by
    rcases List.mem_cons.mp hb with rfl | hb
    · obtain ⟨m, ⟨o, _, _, ho, _⟩, _⟩ := I1.loc
      exact ⟨I1.free, lt1, Nat.le_refl _, o, ho⟩
    · obtain ⟨⟨y, c⟩, _, hc⟩ := List.mem_filterMap.mp hb
      obtain ⟨v, o, ho, _⟩ := I1.cell y b hc
      exact ⟨I1.freeC y b hc, Heap.lt_size ho, I1.ok.cab y b rfl hc, o, ho⟩
  have main : ∀ (go : Obj) (nm qn : Value) (tk2 : Nat), go.cls = .type "generator" → go.data = .fields #[.int s1.gens.size 0, nm, qn] → go.slots = #[] → (∀ h : Heap, (h.push go).get? h.objs.size = some go) →
      ∃ H', Made P w K mg base (k + 1) outer s H G n s1.heap.objs.size s1.gens.size go (.fresh (.func body (envOfC qual scope s.heap.objs.size f cdv))) H'
        { s1 with gens := s1.gens.push (.fresh (.func body (envOfC qual scope s.heap.objs.size f cdv))), toks := tk2, heap := s1.heap.push go } := by
    intro go nm qn tk2 hgc hgd hgs hgp
    have hpush : (s1.heap.push go).get? s1.heap.objs.size = some go := hgp _
    have kp2 : ∀ b o, s1.heap.get? b = some o → (s1.heap.push go).get? b = some o := fun b o e => Heap.get?_push_of_some _ e
    obtain ⟨H', hH'⟩ : ∃ H' : Hp, H' = fun b => if b = s1.heap.objs.size then some (extO b go) else if b ∈ prvOf scope s.heap.objs.size then (s1.heap.get? b).map (extO b) else H b := ⟨_, rfl⟩
    have hA : H' s1.heap.objs.size = some (extO s1.heap.objs.size go) := by rw [hH']; exact if_pos rfl
    have hPrv : ∀ b ∈ prvOf scope s.heap.objs.size, ∃ o, s1.heap.get? b = some o ∧ H' b = some (extO b o) := fun b hb => by
      obtain ⟨_, q2, _, o, ho⟩ := prv1 b hb
      refine ⟨o, ho, ?_⟩
      rw [hH']
      simp only
      rw [if_neg (Nat.ne_of_lt q2), if_pos hb, ho]
      rfl
    have hElse : ∀ b, b ≠ s1.heap.objs.size → b ∉ prvOf scope s.heap.objs.size → H' b = H b := fun b h1 h2 => by
      rw [hH']
      simp only
      rw [if_neg h1, if_neg h2]
    have hnA : H s1.heap.objs.size = none := I1.hok.fresh (Nat.le_refl _)
    have same : Same H H' := fun b o e => by
      rw [hElse b (ne_of_none e hnA) fun hb => by rw [(prv1 b hb).1] at e; cases e]
      exact e
    have old : ∀ b o, s.heap.get? b = some o → H' b = H b := fun b o e => by
      have lt := Heap.lt_size e
      refine hElse b (Nat.ne_of_lt (Nat.lt_trans lt lt1)) fun hb => ?_
      exact absurd lt (Nat.not_lt.mpr (prv1 b hb).2.2.1)
    have aprv : s1.heap.objs.size ∉ prvOf scope s.heap.objs.size := fun hb => Nat.lt_irrefl _ (prv1 _ hb).2.1
    refine ⟨H', ⟨by show s1.os = s.os; rw [es1], AllBare.push (by rw [es1]; exact e0.bare) rfl, fun b o e => ?_, ⟨fun b o e _ _ _ => kp2 b o (kp1 b o e), fun b o e _ _ _ => ⟨o.slots, kp2 b o (kp1 b o e)⟩, fun b o e n _ => by rw [old b o e]; exact n, fun b o e _ => ⟨o, kp2 b o (kp1 b o e)⟩,
      fun b xs e => same b _ e, fun b o u e => same b _ e, fun b ps e => ⟨#[], by rw [same b _ e]; simp⟩⟩, same, fun b n => ?_, fun h e => ⟨go, nm, qn, e, hgc, hgd, hgs⟩, hA, Array.getElem?_push_size .., ?_⟩⟩
    · by_cases h1 : b = s1.heap.objs.size
      · subst h1
        rw [hA] at e; cases e
        exact extO_ok hpush
      · by_cases h2 : b ∈ prvOf scope s.heap.objs.size
        · obtain ⟨ob, q1, q2⟩ := hPrv b h2
          rw [q2] at e; cases e
          exact extO_ok (kp2 b ob q1)
        · rw [hElse b h1 h2] at e
          exact (I1.hok b o e).stay (fun c u _ q => kp2 c u q) (fun c q => same c _ q) fun c xs q => same c _ q
    · by_cases h1 : b = s1.heap.objs.size
      · subst h1; exact .inr ⟨_, hA⟩
      · by_cases h2 : b ∈ prvOf scope s.heap.objs.size
        · obtain ⟨ob, q1, q2⟩ := hPrv b h2
          exact .inr ⟨_, q2⟩
        · exact .inl (by rw [hElse b h1 h2]; exact n)
    · intro M A' hrA hfr hM
      have hM' : ∀ b ∈ M, b ∉ prvOf scope s.heap.objs.size ∧ b ≠ s1.heap.objs.size := fun b hb => ⟨fun z => by
        obtain ⟨ob, _, q⟩ := hPrv b z
        exact (hM b hb _ q).nx _ rfl, fun z => by
        subst z
        exact (hM _ hb _ hA).nx _ rfl⟩
      obtain ⟨t, c, ty, tr, hpre, hloop, hsp'⟩ := hbody A' outer s.heap.objs.size (hrA.deeper _)
      obtain ⟨W, hT, hst⟩ := hsp' vs H G n hsp M fun b hb o e => hM b hb o (same b o e)
      refine slp_of hA fun s2 H2 R => ?_
      show Sg _ _ _ _ [] s2 _
      have at2 : ∀ b ∈ prvOf scope s.heap.objs.size, ∃ o, s1.heap.get? b = some o ∧ H2 b = some (extO b o) := fun b hb => by
        obtain ⟨o, e1, e2⟩ := hPrv b hb
        exact ⟨o, e1, R.but b _ (fun z => (hM' b z).1 hb) e2⟩
      have ext2 : ∀ b ∈ prvOf scope s.heap.objs.size, ∃ φ, H2 b = some (.ext φ) := fun b hb => by
        obtain ⟨o, _, e2⟩ := at2 b hb
        exact ⟨_, e2⟩
      obtain ⟨hle, I2⟩ := rebase I1 R.env hrA.hd rfl (fun b hb => by
        obtain ⟨o, e1, e2⟩ := at2 b hb
        rw [e1]; exact extO_at R.env.hok e2) ext2
      have nxm : NXM M H (inn (prvOf scope s.heap.objs.size) s.heap.objs.size s2.heap H2) := fun b o hb nx e => inn_nx ext2 b o nx (R.but b o hb (same b o e))
      have mok : MOk M (inn (prvOf scope s.heap.objs.size) s.heap.objs.size s2.heap H2) := fun b hb => by
        obtain ⟨o, nx, e⟩ := R.mok b hb
        exact ⟨o, nx, inn_nx ext2 b o nx.nx e⟩
      refine sg_body fun J => ?_
      rw [hbd]
      refine sg_pre GenW.over_func (fun s3 σ3 H3 I3 w3 => ?_) hpre s2 (start N vs) _ I2 (hst _ nxm mok)
      refine sg_cons (sg_at (sg_call fun p => ?_))
      refine turns_run hrA.hd aprv hM' hloop hT S.co S.kind ((GenW.over_loop rfl rfl).trans GenW.over_func) rfl rfl (fun s4 F4 h4 => ?_) n 0 s2 s3 H2 H3 σ3 (Nat.zero_add _) hle R.env R.os ext2 (R.but _ _ (fun z => (hM' _ z).2 rfl) hA) I3 w3
      exact sg_leaf (.ok .next) (sg_end (.ok (.ret .none)) h4)
  obtain ⟨H', h⟩ := main { cls := .type "generator", data := .fields #[.int s1.gens.size 0, .str name s1.toks, .str qual (s1.toks + 1)] } _ _ (s1.toks + 1 + 1) rfl rfl rfl fun h => Heap.get?_push_size _ rfl
  exact ⟨_, _, _, _, H', rfl, h⟩
theorem Fun.gen {x qual : Str} {st : Stmt} {f : Addr} {fd : FuncData} {N ps : List Str} {k : Nat} {sp : SpN} {pre rest : List Stmt} {test ye : Expr} {yp ypos wp : Pos} (F : Fun K x qual st f fd) (S : GScope N ps (defScope st))
    (hbd : defBody st = pre ++ [.While test (.Expr (.Yield (some ye) yp) ypos :: rest) [] wp]) (len : ∀ vs H G n, sp vs H G n → vs.length = ps.length)
    (hbody : ∀ (cdv : Value) (A : Around) (outer : List Env) (L : Addr), Room k (A.deeper (envOfC qual (defScope st) L f cdv)) →
      ∃ t c ty tr, Pre (gcx P w K mg base N qual (defScope st) f cdv A outer L) pre t ∧ Loop P w K mg base N qual (defScope st) f cdv A outer L test ye rest c ty tr ∧
        ∀ vs H G n, sp vs H G n → ∀ M : List Addr, (∀ b ∈ M, ∀ o, H b = some o → Own o) → ∃ W : Nat → Hp → L2.St → Hp → Prop, Turns M (G M) n W c ty tr ∧ ∀ Hw, NXM M H Hw → MOk M Hw → t { nx := fun σ' H' => W 0 Hw σ' H', rt := fun _ _ => False } (start N vs) Hw) :
    GDef P w K mg base (k + 1) f fd ps sp := by
  obtain ⟨oc, od, kV, doc, pm, an, cdv, ct, osl, rfl, lk, hcd⟩ := F.ex
  exact gdef_of lk hcd S hbd len (hbody cdv)
end
/-- a generator def by its name -/
structure CalG (P : Program) (w : World) (K : PySem.W.Frag) (mg : Str → Option Value) (base : Heap) (k : Nat) (x : Str) (ps : List Str) (sp : SpN) : Prop where
  ex : ∃ (f : Addr) (fd : FuncData), mg x = some (.ref f) ∧ PySem.W.keepIn K (.ref f) = true ∧ Binds K fd ps [] ∧ GDef P w K mg base k f fd ps sp
end Hd
set_option maxHeartbeats 4000000
/-! A generator walked: for x in g, for i, x in enumerate(g), [.. for x in g for y in x]. -/
namespace Hd
open PySem PySem.Spec PyProof.Rows L2

/-- a generator that this def walks: turn i is to come -/
structure Zz (X : Cx) (A1 : Around) (os : OsState) (a g : Nat) (go : Obj) (M : List Addr) (G : GPr) (n i : Nat) (H : Hp) (s : Shared) : Prop where
  isgen : ∀ h : Heap, h.get? a = some go → h.IsGen a g
  fields : ∃ vs, go.data = .fields vs
  cls : go.cls = .type "generator"
  gen : ∃ gs, s.gens[g]? = some gs ∧ (i = 0 ∨ ∃ k l c p fs cl, gs = .suspended k l c p fs cl) ∧ ∃ Hy, Slp X.prog X.w X.K X.mg X.base A1.in1 X.stack os a go M G (n - i) i gs Hy ∧ Hy a = some (extO a go) ∧ ButM M Hy H
  am : a ∉ M
section
variable {X : Cx} {A1 : Around} {os : OsState} {a g : Nat} {go : Obj} {M : List Addr} {G : GPr} {n i : Nat} {pins : List (Addr × Obj)} {σ : L2.St} {H : Hp} {s : Shared}
theorem Zz.obj (z : Zz X A1 os a g go M G n i H s) : H a = some (extO a go) := by
  obtain ⟨gs, _, _, Hy, _, h1, h2⟩ := z.gen
  exact h2 a _ z.am h1
/-- behind the body of a turn -/
theorem Zz.next {H' : Hp} {s' : Shared} (z : Zz X A1 os a g go M G n i H s) (hi : i ≠ 0) (hb : ButM M H H') (dr : Dream s.gens s'.gens) : Zz X A1 os a g go M G n i H' s' := by
  obtain ⟨gs, h1, h2, Hy, h3, h4, h5⟩ := z.gen
  refine ⟨z.isgen, z.fields, z.cls, ⟨gs, ?_, h2, Hy, h3, h4, fun b o nb e => hb b o nb (h5 b o nb e)⟩, z.am⟩
  rcases h2 with h2 | ⟨k, l, c, p, fs, cl, rfl⟩
  · exact absurd h2 hi
  · exact dr g k l c p fs cl h1
theorem ready_of (I : Inv X pins σ H s) (hf : A1.frames = some X.stack) (ho : s.os = os) {Hy : Hp} (hb : ButM M Hy H) (hm : MOk M H) : Ready X.prog X.w X.K X.mg X.base A1.in1 X.stack os M Hy (s.setGen g .running) H := by
  have e := I.env0
  exact ⟨⟨hf, e.mod, e.bs, e.bsz, e.funs, e.frf, e.hok, allBare_setGen e.bare rfl⟩, ho, hb, hm⟩
/-- what the def knows when the generator has handed out or ended -/
theorem Inv.seen {H3 : Hp} {s3 s2 : Shared} {h' : Heap} {G' : Array GenState} (I : Inv X pins σ H s) (e1 : s2.heap = s.heap) (e2 : s2.os = s.os) (q : Seen X.prog X.w X.stack a go s2 H s3 H3) (hb : AllBare G')
    (hk : ∀ b o, s3.heap.get? b = some o → h'.get? b = some o) : Inv X pins σ H3 { s3 with heap := h', gens := G' } := by
  refine I.call' (ch := []) (q.os.trans e2) ?_ (q.hok.kept hk) hb fun b z => by simp at z
  have u := q.un
  rw [e1] at u
  exact u.trans (Un.kept hk)
/-- g.__next__() of the generator walked, where an item comes -/
theorem gen_item (hh : A1.handled = none) (hf : A1.frames = some X.stack) (hd : A1.depth < recursionLimit) (I : Inv X pins σ H s) (ho : s.os = os) (z : Zz X A1 os a g go M G n i H s) (hm : MOk M H) (hi : i < n) {Q : Option Value → Shared → Prop} {E : Value → Shared → Prop}
    (hQ : ∀ v s1 x H1 Hw Hi, RelV x v → Inv X pins σ H1 s1 → Zz X A1 os a g go M G n (i + 1) H1 s1 → NX H Hw → G.out i Hw x Hi → NX Hi H1 → H1 a = some (extO a go) → Q (some v) s1) :
    wpAny (model X.prog X.w) A1 (callSpecial? (.ref a) "__next__") Q E s := by
  obtain ⟨gs, h1, h2, Hy, h3, h4, h5⟩ := id z.gen
  obtain ⟨m, em⟩ : ∃ m, n - i = m + 1 := ⟨n - i - 1, by omega⟩
  rw [em] at h3
  have hgl : g < s.gens.size := (Array.getElem?_eq_some_iff.mp h1).1
  have ha : s.heap.IsGen a g := z.isgen _ (extO_at I.hok z.obj)
  refine GenW.wpAny_gsz (n := g + 1) hgl ?_
  refine special_woken hh I.nolimit hd ha h1 (h3.2 _ H (ready_of I hf ho h5 hm)) (fun e s1 q => ?_) (fun v gd l k c p fs s1 q hsz => ?_) fun r s1 q => ?_
  · obtain ⟨v, l, k, c, p, fs, rfl, hg, _⟩ := q
    show (!(false || fs.any Frame.guarded)) = true
    rw [hg]; rfl
  · obtain ⟨v', l', k', c', p', fs', e, hg, x, H3, Hw, Hi, rv, sn, n1, ho3, n2, sl⟩ := q
    cases e
    have hs1 : g < s1.gens.size := by
      have q : (s1.setGen g (GenState.suspended k l c p fs (false || fs.any Frame.guarded))).gens.size = s1.gens.size := GenW.setGen_size _ _ _
      rw [q] at hsz
      exact hsz
    have eg : (false || fs.any Frame.guarded) = false := by rw [hg]; rfl
    rw [eg]
    have I3 : Inv X pins σ H3 (s1.setGen g (.suspended k l c p fs false)) := Inv.seen (s2 := s.setGen g .running) (h' := s1.heap) I rfl rfl sn (allBare_setGen sn.bare rfl) fun _ _ q => q
    refine hQ v _ x H3 Hw Hi rv I3 ⟨z.isgen, z.fields, z.cls, ⟨_, setGen_at hs1, .inr ⟨k, l, c, p, fs, false, rfl⟩, H3, ?_, sn.obj, fun b o _ q => q⟩, z.am⟩ n1 ho3 n2 sn.obj
    have em : n - (i + 1) = m := by omega
    rw [em]
    exact sl
  · obtain ⟨_, _, _, _, _, _, e, _⟩ := q
    cases e
/-- .. where it ends -/
theorem gen_done (hh : A1.handled = none) (hf : A1.frames = some X.stack) (hd : A1.depth < recursionLimit) (I : Inv X pins σ H s) (ho : s.os = os) (z : Zz X A1 os a g go M G n n H s) (hm : MOk M H) {Q : Option Value → Shared → Prop} {E : Value → Shared → Prop}
    (hE : ∀ e s1 H1 Hw Hi, Stopped e s1.heap → Inv X pins σ H1 s1 → NX H Hw → G.fin n Hw Hi → NX Hi H1 → E e s1) :
    wpAny (model X.prog X.w) A1 (callSpecial? (.ref a) "__next__") Q E s := by
  obtain ⟨gs, h1, h2, Hy, h3, h4, h5⟩ := id z.gen
  rw [Nat.sub_self] at h3
  have ha : s.heap.IsGen a g := z.isgen _ (extO_at I.hok z.obj)
  refine special_woken hh I.nolimit hd ha h1 (h3.2 _ H (ready_of I hf ho h5 hm)) (fun e s1 q => ?_) (fun v gd l k c p fs s1 q => ?_) fun r s1 q => ?_
  · obtain ⟨r, rfl, _⟩ := q
    rfl
  · obtain ⟨r, e, _⟩ := q
    cases e
  · obtain ⟨r', e, hr, H3, Hw, Hi, sn, n1, hf3, n2⟩ := q
    cases e
    refine ⟨hr, fun e h' hk st => ?_⟩
    exact hE e _ H3 Hw Hi st (Inv.seen (s3 := s1) (s2 := s.setGen g .running) (h' := h') I rfl rfl sn (allBare_setGen sn.bare rfl) hk) n1 hf3 n2
end

/-! ### the generator's making -/
/-- an expression whose value is a generator: what it promises, how many turns, where it is -/
abbrev TGm := L2.St → Hp → ((List Addr → GPr) → Nat → Addr → Hp → Prop) → Prop
structure PGm (X : Cx) (k : Nat) (e : Expr) (t : TGm) : Prop where
  run : ∀ (pins : List (Addr × Obj)) (s : Shared) (σ : L2.St) (H : Hp) (cont : (List Addr → GPr) → Nat → Addr → Hp → Prop), Inv X pins σ H s → t σ H cont → wpAny (model X.prog X.w) X.A (eval e X.env)
    (fun u s' => ∃ (G : List Addr → GPr) (n a g : Nat) (go : Obj) (gs : GenState) (H' H1 : Hp) (s1 : Shared), u = .ref a ∧ Inv X pins σ H' s' ∧ s1.os = s'.os ∧ Made X.prog X.w X.K X.mg X.base k X.stack s1 H1 G n a g go gs H' s' ∧ cont G n a H') X.xe s
def tGm (sp : SpN) (t : TA) : TGm := fun σ H cont => t σ H fun vs H1 => ∃ (G : List Addr → GPr) (n : Nat), sp vs H1 G n ∧ ∀ a H', Same H1 H' → (∀ b, H1 b = none → H' b = none ∨ ∃ φ, H' b = some (.ext φ)) → cont G n a H'
section
variable {X : Cx} {k : Nat} {f : Addr} {fd : FuncData} {ps : List Str} {sp : SpN} {x : Str} {p pos : Pos}
theorem pgm_call {e : Expr} {es : List Expr} {t : TA} (F : GDef X.prog X.w X.K X.mg X.base k f fd ps sp) (hr : Room k X.A) (hg : Gl X x) (hm : X.mg x = some (.ref f)) (hk : PySem.W.keepIn X.K (.ref f) = true) (hb : Binds X.K fd ps [])
    (ha : PA X (e :: es) t) (hdb : (x == ("__debug__" : Str)) = false := by decide) (he : starEach (e :: es) X.env = (false, eval e X.env) :: starEach es X.env := by rfl) (hpl : (backTo pos (starEach es X.env)).any (·.1) = false := by rfl) :
    PGm X k (.Call (.Name x p) (e :: es) [] pos) (tGm sp t) := by
  refine ⟨fun pins s σ H cont I h => ?_⟩
  refine wpAny_Call_Name_kw (ld_glob I hg hm ?_ hdb)
  refine PySem.W.callWith_K (h₀ := X.base) I.ok.mod.kin hk (thn (ha.run pos pins s σ H _ I h) fun us s1 q => ?_) he hpl
  obtain ⟨vs, H1, I1, r, G, n, hsp, hc⟩ := q
  refine ⟨I1.kIn, ?_⟩
  have hl2 : us.length = ps.length := by rw [← r.length]; exact F.len _ _ _ _ hsp
  refine wpAny_call (codeAny_mono (F.run X.A X.stack s1 H1 ⟨us, []⟩ us vs G n hr I1.env0 (by simpa using hb s1 us I1.kIn (by simpa using hl2)) r hsp) fun res s2 q => ?_)
  obtain ⟨a, g, go, gs, H', rfl, m⟩ := q
  refine ⟨G, n, a, g, go, gs, H', H1, s1, rfl, I1.call' (ch := []) m.os m.un m.hok m.bare fun b z => by simp at z, m.os.symm, m, hc a H' m.same m.news⟩
theorem pgm_cal {e : Expr} {es : List Expr} {t : TA} (C : CalG X.prog X.w X.K X.mg X.base k x ps sp) (hr : Room k X.A) (hg : Gl X x)
    (ha : PA X (e :: es) t) (hdb : (x == ("__debug__" : Str)) = false := by decide) (he : starEach (e :: es) X.env = (false, eval e X.env) :: starEach es X.env := by rfl) (hpl : (backTo pos (starEach es X.env)).any (·.1) = false := by rfl) :
    PGm X k (.Call (.Name x p) (e :: es) [] pos) (tGm sp t) := by
  obtain ⟨f, fd, hm, kp, hb, F⟩ := C.ex
  exact pgm_call F hr hg hm kp hb ha hdb he hpl
/-- the walk begins -/
theorem Zz.begin {s1 s' : Shared} {H1 H' : Hp} {a g n : Nat} {go : Obj} {gs : GenState} {G : List Addr → GPr} {A1 : Around} {M : List Addr} (m : Made X.prog X.w X.K X.mg X.base k X.stack s1 H1 G n a g go gs H' s') (hgo : ∃ vs, go.data = .fields vs) (hcl : go.cls = .type "generator")
    (hr : Room k A1.in1) (hf : A1.frames = some X.stack) {s2 : Shared} {H2 : Hp} (hg : s2.gens = s'.gens) (sm : Same H' H2) (hM : ∀ b ∈ M, ∀ o, H' b = some o → Own o) : Zz X A1 s1.os a g go M (G M) n 0 H2 s2 := by
  refine ⟨m.isgen, hgo, hcl, ⟨gs, by rw [hg]; exact m.gen, .inl rfl, H', m.slp M A1.in1 hr hf hM, m.obj, fun b o _ e => sm b o e⟩, fun z => (hM a z _ m.obj).nx _ rfl⟩
end

/-! ### for x in g -/
def tForG (t : TGm) (g : TG) (tb : TS) : TS := fun D σ H => t σ H fun G n a H1 => ∃ M : List Addr, MOk M H1 ∧ ∃ W : Nat → L2.St → Hp → Prop, W 0 σ H1 ∧
  (∀ i σ H, i < n → W i σ H → ∀ x Hw Hi H', NX H Hw → (G M).out i Hw x Hi → NX Hi H' → g x σ H' fun σ2 H2 => tb { D with nx := fun σ3 H3 => ButM M H' H3 ∧ MOk M H3 ∧ W (i + 1) σ3 H3, ct := fun σ3 H3 => ButM M H' H3 ∧ MOk M H3 ∧ W (i + 1) σ3 H3, bk := D.nx } σ2 H2) ∧
  ∀ σ H, W n σ H → ∀ Hw Hi H', NX H Hw → (G M).fin n Hw Hi → NX Hi H' → D.nx σ H'
theorem Inv.back {X : Cx} {pins : List (Addr × Obj)} {σ : L2.St} {H : Hp} {s : Shared} {G : Array GenState} (I : Inv X pins σ H { s with gens := G }) (b : AllBare s.gens) : Inv X pins σ H s :=
  Inv.regen (s := { s with gens := G }) (G := s.gens) I b
theorem sp_regen {X : Cx} {pins : List (Addr × Obj)} {D : Ends} {f : Flow} {s : Shared} {G : Array GenState} (b : AllBare s.gens) (h : SP X pins D f { s with gens := G }) : SP X pins D f s := by
  cases f with
  | next => obtain ⟨σ, H, I, q⟩ := h; exact ⟨σ, H, Inv.back I b, q⟩
  | brk => obtain ⟨σ, H, I, q⟩ := h; exact ⟨σ, H, Inv.back I b, q⟩
  | cont => obtain ⟨σ, H, I, q⟩ := h; exact ⟨σ, H, Inv.back I b, q⟩
  | ret u => obtain ⟨v, σ, H, I, r, q⟩ := h; exact ⟨v, σ, H, Inv.back I b, r, q⟩
theorem sp_bare {X : Cx} {pins : List (Addr × Obj)} {D : Ends} {f : Flow} {s : Shared} (h : SP X pins D f s) : AllBare s.gens := by
  cases f with
  | next => obtain ⟨σ, H, I, q⟩ := h; exact I.bare
  | brk => obtain ⟨σ, H, I, q⟩ := h; exact I.bare
  | cont => obtain ⟨σ, H, I, q⟩ := h; exact I.bare
  | ret u => obtain ⟨v, σ, H, I, r, q⟩ := h; exact I.bare
/-- a body run: all sleepers sleep on -/
theorem body_asleep {X : Cx} {body : List Stmt} {tb : TS} (hb : PSs X.nox body tb) {pins : List (Addr × Obj)} {σ : L2.St} {H : Hp} {s : Shared} {D : Ends} (I : Inv X pins σ H s) (h : tb D σ H) :
    wpAny (model X.prog X.w) X.A (execs body X.env) (fun f s' => SP X pins D f s' ∧ Dream s.gens s'.gens) (fun _ _ => False) s := by
  have I2 : Inv X.nox pins σ H { s with gens := s.gens.map stoned } := (Inv.regen I (bare_stoned I.bare)).wish _
  refine wpAny_mono (wpAny_asleep (hb.run pins _ σ H D I2 h)) (fun f s' q => ?_) fun e s' q => ?_
  · obtain ⟨G, tw, dr, q⟩ := q
    have q' := q.unwish
    exact ⟨sp_regen (tw.bare (sp_bare q')) q', dr⟩
  · obtain ⟨_, _, _, q⟩ := q
    exact q
theorem asg_asleep {X : Cx} {tg : Expr} {g : TG} (hg : PG X.nox tg g) {pins : List (Addr × Obj)} {σ : L2.St} {H : Hp} {s : Shared} {v : V} {u : Value} {Q : L2.St → Hp → Prop} (I : Inv X pins σ H s) (r : RelV v u) (h : g v σ H Q) :
    wpAny (model X.prog X.w) X.A (assign tg X.env u) (fun _ s' => (∃ σ' H', Inv X pins σ' H' s' ∧ Q σ' H') ∧ Dream s.gens s'.gens) (fun _ _ => False) s := by
  have I2 : Inv X.nox pins σ H { s with gens := s.gens.map stoned } := (Inv.regen I (bare_stoned I.bare)).wish _
  refine wpAny_mono (wpAny_asleep (hg.run pins _ σ H v u Q I2 r h)) (fun f s' q => ?_) fun e s' q => ?_
  · obtain ⟨G, tw, dr, σ', H', I', q⟩ := q
    have I3 := I'.unwish
    exact ⟨⟨σ', H', Inv.back I3 (tw.bare I3.bare), q⟩, dr⟩
  · obtain ⟨_, _, _, q⟩ := q
    exact q
theorem Dream.then {G G1 G2 : Array GenState} (a : Dream G G1) (b : Dream G1 G2) : Dream G G2 := fun i k l c p fs cl e => b i k l c p fs cl (a i k l c p fs cl e)
theorem ps_forG {X : Cx} {k : Nat} {x : Str} {xp pos : Pos} {iter : Expr} {body : List Stmt} {t : TGm} {g : TG} {tb : TS} (hp : PassesOwn (model X.prog X.w) X.A X.env X.xe) (hr : Room (k + 1) X.A) (hi : PGm X k iter t) (hg : PG X.nox (.Name x xp) g) (hb : PSs X.nox body tb)
    (hs : ∀ x, foldedSetIterable iter X.env x = pure x := by intro _; rfl) : PS X (.For (.Name x xp) iter body [] pos) (tForG t g tb) := by
  refine ⟨fun pins s σ H D I h => ?_⟩
  refine wpAny_For (thn (hi.run pins s σ H _ I h) fun v s1 q => ?_) hs
  obtain ⟨G, n, a, gn, go, gs, H1, H0, s0, rfl, I1, os0, m, M, hM, W, w0, turn, stop⟩ := q
  have ig : s1.heap.IsGen a gn := m.isgen _ (extO_at I1.hok m.obj)
  refine wpAny_pyIter_gen ig ?_
  have hgo : (∃ vs, go.data = .fields vs) ∧ go.cls = .type "generator" := by
    obtain ⟨o, nm, qn, ho, hc, hd, _⟩ := ig
    rw [extO_at I1.hok m.obj] at ho
    cases ho
    exact ⟨⟨_, hd⟩, hc⟩
  have z0 : Zz X X.A s0.os a gn go M (G M) n 0 H1 s1 := Zz.begin m hgo.1 hgo.2 hr.in1 I1.ok.frames rfl (fun _ _ e => e) fun b hb o e => by
    obtain ⟨o', ow, e'⟩ := hM b hb
    rw [e] at e'; cases e'; exact ow
  have hd : X.A.depth < recursionLimit := by have := hr.dp; omega
  refine codeAny_forLoop_any (fun r s' => ∃ i σ' H', r + i = n ∧ Inv X pins σ' H' s' ∧ Zz X X.A s0.os a gn go M (G M) n i H' s' ∧ MOk M H' ∧ W i σ' H') ?_ n ⟨0, σ, H1, by omega, I1, z0, hM, w0⟩
  rintro r s3 ⟨i, σ3, H3, hri, I3, z3, m3, w3⟩
  have os3 : s3.os = s0.os := I3.os.trans (I1.os.symm.trans os0.symm)
  by_cases hin : i < n
  · refine wpAny_passesOwn hp (next_of_special (gen_item hr.hd I3.ok.frames hd I3 os3 z3 m3 hin fun v s4 y H4 Hw Hi rv I4 z4 n1 ho n2 ha4 => ⟨by simp, ?_⟩))
    refine wpAny_passesOwn hp ?_
    refine go_of (extO_at I4.hok ha4) hgo.2 hgo.1.choose_spec (by decide) ?_
    refine wpAny_passesOwn hp (wpAny_mono (asg_asleep hg I4 rv (turn i σ3 H3 hin w3 y Hw Hi H4 n1 ho n2)) (fun _ s5 q => ?_) fun _ _ z => False.elim z)
    obtain ⟨⟨σ5, H5, I5, q5⟩, d5⟩ := q
    refine wpAny_passesOwn hp (wpAny_mono (body_asleep hb I5 q5) (fun f s6 q => ?_) fun _ _ z => False.elim z)
    obtain ⟨q6, d6⟩ := q
    have again : ∀ {σ6 : L2.St} {H6 : Hp}, Inv X pins σ6 H6 s6 → (ButM M H4 H6 ∧ MOk M H6 ∧ W (i + 1) σ6 H6) → ∃ m, m < r ∧ ∃ i σ' H', m + i = n ∧ Inv X pins σ' H' s6 ∧ Zz X X.A s0.os a gn go M (G M) n i H' s6 ∧ MOk M H' ∧ W i σ' H' := fun {σ6 H6} I6 q => by
      obtain ⟨b6, m6, w6⟩ := q
      exact ⟨r - 1, by omega, i + 1, σ6, H6, by omega, I6, z4.next (Nat.succ_ne_zero i) b6 (d5.then d6), m6, w6⟩
    cases f with
    | next => obtain ⟨σ6, H6, I6, q⟩ := q6; exact again I6 q
    | cont => obtain ⟨σ6, H6, I6, q⟩ := q6; exact again I6 q
    | brk => obtain ⟨σ6, H6, I6, q⟩ := q6; exact ⟨σ6, H6, I6, q⟩
    | ret v => obtain ⟨x6, σ6, H6, I6, r6, q⟩ := q6; exact ⟨x6, σ6, H6, I6, r6, q⟩
  · have e : i = n := by omega
    subst e
    refine wpAny_passesOwn hp (next_of_special (gen_done hr.hd I3.ok.frames hd I3 os3 z3 m3 fun e s4 H4 Hw Hi st I4 n1 hf n2 => ⟨st, ?_⟩))
    exact wpAny_execs_nil ⟨σ3, H4, I4, stop σ3 H3 w3 Hw Hi H4 n1 hf n2⟩
end Hd
set_option maxHeartbeats 4000000
/-! for i, x in enumerate(g) -/
namespace Hd
open PySem PySem.Spec PyProof.Rows L2
open AutoSeq1 (wpAny_loadPart')

/-- an enumerate object over q -/
abbrev enumO (q : Addr) (i : Int) (old : Value) : Obj := { cls := .type "enumerate", dict := none, data := .fields #[.none, .bool false, .ref q, rawInt i, .none, old], slots := #[] }
theorem enumNewG (q : Addr) (g : Nat) (o : Obj) (hc : o.cls = .type "generator") :
    Meets (Builtin.«enumerate.__new__» ⟨[.type "enumerate", .ref q], []⟩) (fun _ R s => s.heap.get? q = some o ∧ s.heap.IsGen q g ∧
      R (.ok (.ret (.ref s.heap.objs.size))) ⟨s.heap.push (enumO q 0 .none), s.gens, s.drawn, s.toks, s.os⟩) :=
  .of_wp fun P0 w0 A0 R0 s0 k0 => by
    obtain ⟨h0, g0, d0, t0, o0⟩ := s0
    obtain ⟨hq, ig, k0⟩ := k0
    obtain ⟨oc, od, dt, so⟩ := o
    replace hc : oc = .type "generator" := hc
    subst hc
    have subE := sub_enumerate
    have isG : Heap.IsGen (Shared.heap ⟨h0, g0, d0, t0, o0⟩) q g := ig
    wp_walk using wpAny_loadPart' hq
    refine wpAny_stack_any fun _ => wpAny_pure ?_
    split
    · rename_i c _ _ _ _ _
      cases (c == Value.type "enumerate") <;> (wp_walk using wpAny_loadPart' hq, wpAny_pyIter_gen isG; exact ⟨_, rfl, k0⟩)
    · wp_walk using wpAny_loadPart' hq, wpAny_pyIter_gen isG
      exact ⟨_, rfl, k0⟩
theorem enumCallG {prog : Program} {w : World} {A : Around} {E : Value → Shared → Prop} {s : Shared} {q g : Nat} {Q : Value → Shared → Prop} (ig : s.heap.IsGen q g)
    (k : Q (.ref s.heap.objs.size) { s with heap := s.heap.push (enumO q 0 .none) }) : wpAny (model prog w) A (call (.type "enumerate") [.ref q]) Q E s := by
  obtain ⟨o, nm, qn, ho, hc, _⟩ := id ig
  refine callType_new F.called_enumerate (by decide) (F.typeCall_enumerate_1 _) (F.newCall_enumerate_1 _) (fun obj => F.args_object_init_2 obj _) F.entry_enumerate_new (enumNewG q g o hc) ⟨ho, ig, ?_⟩
  exact ⟨⟨_, Heap.get?_push_size _ rfl, rfl⟩, k⟩

section
variable {X : Cx} {os : OsState} {a g : Nat} {go : Obj} {M : List Addr} {G : GPr} {n i : Nat} {pins : List (Addr × Obj)} {σ : L2.St} {H : Hp} {s : Shared} {e : Addr} {old : Value} {elts : List Expr} {kk : Nat} {tpos : Pos}
theorem enum_item (hh : X.A.handled = none) (hd : X.A.depth < recursionLimit) (I : Inv X pins σ H s) (ho : s.os = os) (z : Zz X X.A.in1 os a g go M G n i H s) (hm : MOk M H) (hi : i < n) (he : s.heap.get? e = some (enumO a (i : Int) old)) (hf : FpOk X pins H e) {E : Value → Shared → Prop}
    {Q : Addr → Shared → Prop}
    (hQ : ∀ T s1 x H1 Hw Hi old', Inv X pins σ (upd H1 T (.tup [.int (i : Nat), x])) s1 → H1 T = none → H1 e = none → Zz X X.A.in1 os a g go M G n (i + 1) (upd H1 T (.tup [.int (i : Nat), x])) s1 → NX H Hw → G.out i Hw x Hi → NX Hi H1 → s1.heap.get? e = some (enumO a ((i + 1 : Nat) : Int) old') → Q T s1) :
    wpAny (model X.prog X.w) X.A (pyNext (.ref e)) (fun r s1 => ∃ T, r = some (.ref T) ∧ wpAny (model X.prog X.w) X.A (letOwnedTupleGo (.Tuple elts kk tpos) (.ref e) (.ref T)) (fun _ s2 => Q T s2) E s1) E s := by
  have hT : s.TypeIs (.ref e) "enumerate" := ⟨_, he, rfl⟩
  refine next_of_special ?_
  refine wpAny_callSpecial?_slot (name := Str.ofString "__next__") hT F.slot_enumerate_next ?_
  refine wpAny_call_entry F.slot_enumerate_next hT F.entry_enumerate_next ?_ (F.args_enumerate_next_1 _)
  show wpAny _ X.A.in1 (field (.ref e) 2 >>= _) _ _ s
  refine wpAny_bind (wpAny_field he rfl (x := .ref a) rfl ?_)
  have Ie : Inv X ((e, enumO a (i : Int) old) :: pins) σ H s := I.pins_of fun p hp => by
    rcases List.mem_cons.mp hp with hp | hp
    · subst hp
      exact ⟨he, hf.1, hf.2.1, hf.2.2.1, fun v q => by cases q⟩
    · exact I.pin p (List.mem_append_right _ hp)
  refine wpAny_bind (nextOf_of_special (gen_item (A1 := X.A.in1) hh I.ok.frames hd Ie ho z hm hi fun v s1 x H1 Hw Hi rv J zz n1 ho1 n2 ha1 => ⟨v, rfl, ?_⟩))
  obtain ⟨pe, pn, _⟩ := J.pin (e, enumO a (i : Int) old) (List.mem_append_right _ List.mem_cons_self)
  have pe : s1.heap.get? e = some (enumO a (i : Int) old) := pe
  have J1 : Inv X pins σ H1 s1 := J.pins_of fun p hp => J.pin p (List.mem_append_right _ (List.mem_cons_of_mem _ hp))
  have fe : FpOk X pins H1 e := ⟨pn, hf.2⟩
  obtain ⟨h1, g1, d1, t1, o1⟩ := s1
  replace pe : h1.get? e = some (enumO a (i : Int) old) := pe
  refine wpAny_bind (wpAny_field pe rfl (x := rawInt (i : Int)) rfl ?_)
  refine wpAny_bind (wpAny_field pe rfl (x := .none) rfl ?_)
  show wpAny _ _ (mkInt (i : Int) >>= _) _ _ _
  refine wpAny_bind (wpAny_mkInt ?_)
  refine wpAny_bind (wpAny_setField_rec pe (by simp) fun h2 e2 k2 => ?_)
  replace e2 : h2.get? e = some (enumO a ((i : Int) + 1) old) := e2
  refine wpAny_bind (wpAny_setField_rec e2 (by simp) fun h3 e3 k3 => ?_)
  replace e3 : h3.get? e = some (enumO a ((i : Int) + 1) old) := e3
  refine wpAny_bind (wpAny_newTuple ?_)
  have lt : e < h1.objs.size := Heap.lt_size pe
  have sz : h3.objs.size = h1.objs.size := k3.1.trans k2.1
  have e4 : (h3.push { cls := .type "tuple", data := .seq #[.int (i : Int) t1, v] }).get? e = some (enumO a ((i : Int) + 1) old) := Heap.get?_push_of_some _ e3
  have T4 : (h3.push { cls := .type "tuple", data := .seq #[.int (i : Int) t1, v] }).get? h1.objs.size = some { cls := .type "tuple", data := .seq #[.int (i : Int) t1, v] } := by
    rw [← sz]; exact Heap.get?_push_size _ rfl
  have K4 : ∀ b o, b ≠ e → h1.get? b = some o → (h3.push { cls := .type "tuple", data := .seq #[.int (i : Int) t1, v] }).get? b = some o := fun b o nb q =>
    Heap.get?_push_of_some _ ((k3.2 b nb).trans ((k2.2 b nb).trans q))
  rw [sz]
  generalize h3.push { cls := .type "tuple", data := .seq #[.int (i : Int) t1, v] } = h4 at e4 T4 K4 ⊢
  refine wpAny_bind ?_
  unfold Builtin.SmallTypes.ownedTupleIsFree
  refine wpAny_bind (wpAny_field e4 rfl (x := .none) rfl (wpAny_pure ?_))
  simp only [if_true]
  refine wpAny_bind (wpAny_rule ?_)
  refine wpAny_bind (wpAny_field e4 rfl (x := old) rfl ?_)
  refine wpAny_bind (wpAny_setField_rec e4 (by simp) fun h5 e5 k5 => ?_)
  replace e5 : h5.get? e = some (enumO a ((i : Int) + 1) v) := e5
  refine wpAny_bind ?_
  unfold Builtin.SmallTypes.ownedTupleHandOut
  refine wpAny_bind (wpAny_setField_rec e5 (by simp) fun h6 e6 k6 => ?_)
  replace e6 : IsEnumOut h6 e a ((i : Int) + 1) v h1.objs.size := e6
  refine wpAny_setField_rec e6 (by simp) fun h7 e7 k7 => ?_
  replace e7 : IsEnumOut h7 e a ((i : Int) + 1) v h1.objs.size := e7
  refine wpAny_bind (wpAny_letGo (wpAny_pure ⟨_, rfl, by simp, h1.objs.size, rfl, ?_⟩))
  refine wpAny_letOwnedTupleGo_enum (s := ⟨h7, g1, d1, t1 + 1, o1⟩) e7 fun h8 e8 k8 => ?_
  have K8 : ∀ b o, b ≠ e → h4.get? b = some o → h8.get? b = some o := fun b o nb q => (k8.2 b nb).trans ((k7.2 b nb).trans ((k6.2 b nb).trans ((k5.2 b nb).trans q)))
  have T8 := K8 _ _ (Nat.ne_of_gt lt) T4
  have nT : H1 h1.objs.size = none := J1.hok.fresh (Nat.le_refl _)
  have new : ObjOk X.prog X.w (upd H1 h1.objs.size (.tup [.int (i : Nat), x])) h8 h1.objs.size (.tup [.int (i : Nat), x]) :=
    ⟨by show 2 ≤ sizeLine; decide, [.int (i : Int) t1, v], .cons ⟨_, rfl⟩ (.cons rv .nil), ⟨_, T8, rfl, _, rfl⟩⟩
  have J2 : Inv X pins σ (upd H1 h1.objs.size (.tup [.int (i : Nat), x])) ⟨h8, g1, d1, t1 + 1, o1⟩ :=
    J1.turnedNew (t' := t1 + 1) (h' := h8) (ch := [e]) (fun b ob hb q => K8 b ob (fun z => hb (by simp [z])) (K4 b ob (fun z => hb (by simp [z])) q)) (fun b hb => by
      rw [List.mem_singleton.mp hb]; exact fe) (Nat.le_refl _) new
  refine hQ h1.objs.size _ x H1 Hw Hi v J2 nT pn (zz.next (Nat.succ_ne_zero i) (fun b o _ q => ?_) fun _ _ _ _ _ _ _ q => q) n1 ho1 n2 ?_
  · rw [upd_ne (ne_of_none q nT)]; exact q
  · have e1 : ((i + 1 : Nat) : Int) = (i : Int) + 1 := by omega
    rw [e1]
    exact e8
theorem enum_done (hh : X.A.handled = none) (hd : X.A.depth < recursionLimit) (I : Inv X pins σ H s) (ho : s.os = os) (z : Zz X X.A.in1 os a g go M G n n H s) (hm : MOk M H) (he : s.heap.get? e = some (enumO a (n : Int) old)) {E : Value → Shared → Prop} {Q : Shared → Prop}
    (hQ : ∀ s1 H1 Hw Hi, Inv X pins σ H1 s1 → NX H Hw → G.fin n Hw Hi → NX Hi H1 → Q s1) :
    wpAny (model X.prog X.w) X.A (pyNext (.ref e)) (fun r s1 => r = none ∧ Q s1) E s := by
  have hT : s.TypeIs (.ref e) "enumerate" := ⟨_, he, rfl⟩
  unfold pyNext
  refine wpAny_bind (wpAny_attempt ?_)
  refine wpAny_callSpecial?_slot (name := Str.ofString "__next__") hT F.slot_enumerate_next ?_
  refine wpAny_call_entry F.slot_enumerate_next hT F.entry_enumerate_next ?_ (F.args_enumerate_next_1 _)
  show wpAny _ X.A.in1 (field (.ref e) 2 >>= _) _ _ s
  refine wpAny_bind (wpAny_field he rfl (x := .ref a) rfl ?_)
  refine wpAny_bind (nextOf_of_special (gen_done (A1 := X.A.in1) hh I.ok.frames hd I ho z hm fun x s1 H1 Hw Hi st I1 n1 hf n2 => ?_))
  obtain ⟨b, o, rfl, hb, hc⟩ := st
  refine wpAny_bind (wpAny_isInstance (T := "StopIteration") (b := true) ⟨o, hb, hc⟩ isSubtype_stop ?_)
  exact wpAny_pure ⟨rfl, hQ s1 H1 Hw Hi I1 n1 hf n2⟩
end
def tForE (t : TGm) (g : TG) (tb : TS) : TS := fun D σ H => t σ H fun G n a H1 => ∃ M : List Addr, MOk M H1 ∧ ∃ W : Nat → L2.St → Hp → Prop, W 0 σ H1 ∧
  (∀ i σ H, i < n → W i σ H → ∀ x Hw Hi H' T, NX H Hw → (G M).out i Hw x Hi → NX Hi H' → H' T = none → g (.ref T) σ (upd H' T (.tup [.int (i : Nat), x])) fun σ2 H2 =>
    tb { D with nx := fun σ3 H3 => ButM M (upd H' T (.tup [.int (i : Nat), x])) H3 ∧ MOk M H3 ∧ W (i + 1) σ3 H3, ct := fun σ3 H3 => ButM M (upd H' T (.tup [.int (i : Nat), x])) H3 ∧ MOk M H3 ∧ W (i + 1) σ3 H3, bk := D.nx } σ2 H2) ∧
  ∀ σ H, W n σ H → ∀ Hw Hi H', NX H Hw → (G M).fin n Hw Hi → NX Hi H' → D.nx σ H'
theorem ps_forE {X : Cx} {k : Nat} {elts : List Expr} {kk : Nat} {tpos pos p epos : Pos} {iter : Expr} {body : List Stmt} {t : TGm} {g : TG} {tb : TS} (hp : PassesOwn (model X.prog X.w) X.A X.env X.xe) (hr : Room (k + 2) X.A) (hgl : Gl X "enumerate") (hmg : X.mg "enumerate" = none)
    (hi : PGm X k iter t) (hg : PG X.nox (.Tuple elts kk tpos) g) (hb : PSs X.nox body tb) (hst : starEach [iter] X.env = (false, eval iter X.env) :: starEach [] X.env := by rfl)
    (hs : ∀ x, foldedSetIterable (.Call (.Name "enumerate" p) [iter] [] epos) X.env x = pure x := by intro _; rfl) : PS X (.For (.Tuple elts kk tpos) (.Call (.Name "enumerate" p) [iter] [] epos) body [] pos) (tForE t g tb) := by
  refine ⟨fun pins s σ H D I h => ?_⟩
  refine wpAny_For ?_ hs
  refine Call_ (ld_blt I hgl hmg boot_enumerate (PyProof.Rows.callWith_type1 ?_ hst rfl))
  rw [hst]
  refine Calls.spliced_cons (thn (hi.run pins s σ H _ I h) fun v s1 q => ?_)
  refine Calls.spliced_nil ?_
  obtain ⟨G, n, a, gn, go, gs, H1, H0, s0, rfl, I1, os0, m, M, hM, W, w0, turn, stop⟩ := q
  have ig : s1.heap.IsGen a gn := m.isgen _ (extO_at I1.hok m.obj)
  have hgo : (∃ vs, go.data = .fields vs) ∧ go.cls = .type "generator" := by
    obtain ⟨o, nm, qn, ho, hc, hd, _⟩ := ig
    rw [extO_at I1.hok m.obj] at ho
    cases ho
    exact ⟨⟨_, hd⟩, hc⟩
  refine enumCallG ig ?_
  have I2 : Inv X pins σ H1 { s1 with heap := s1.heap.push (enumO a 0 .none) } := I1.kept (t' := s1.toks) fun b o e => Heap.get?_push_of_some _ e
  have e2 : (s1.heap.push (enumO a 0 .none)).get? s1.heap.objs.size = some (enumO a ((0 : Nat) : Int) .none) := Heap.get?_push_size _ rfl
  refine wpAny_pyIter_enum (s := { s1 with heap := s1.heap.push (enumO a 0 .none) }) e2 ?_
  have f2 : FpOk X pins H1 s1.heap.objs.size := I1.fpOk (Nat.le_refl _) (I1.hok.fresh (Nat.le_refl _))
  have z0 : Zz X X.A.in1 s0.os a gn go M (G M) n 0 H1 { s1 with heap := s1.heap.push (enumO a 0 .none) } := Zz.begin m hgo.1 hgo.2 hr.in1.in1 I1.ok.frames rfl (fun _ _ e => e) fun b hb o e => by
    obtain ⟨o', ow, e'⟩ := hM b hb
    rw [e] at e'; cases e'; exact ow
  have hd : X.A.depth < recursionLimit := by have := hr.dp; omega
  generalize s1.heap.objs.size = E at e2 f2 ⊢
  generalize hs2 : ({ s1 with heap := s1.heap.push (enumO a 0 .none) } : Shared) = s2 at I2 z0 ⊢
  have e2' : s2.heap.get? E = some (enumO a ((0 : Nat) : Int) .none) := by rw [← hs2]; exact e2
  have o2 : s2.os = s1.os := by rw [← hs2]
  refine codeAny_forLoop_any (fun r s' => ∃ i σ' H' old, r + i = n ∧ Inv X pins σ' H' s' ∧ Zz X X.A.in1 s0.os a gn go M (G M) n i H' s' ∧ MOk M H' ∧ s'.heap.get? E = some (enumO a ((i : Nat) : Int) old) ∧ H' E = none ∧ W i σ' H') ?_ n ⟨0, σ, H1, _, by omega, I2, z0, hM, e2', f2.1, w0⟩
  rintro r s3 ⟨i, σ3, H3, old, hri, I3, z3, m3, e3, fE, w3⟩
  have os3 : s3.os = s0.os := I3.os.trans (I1.os.symm.trans os0.symm)
  by_cases hin : i < n
  · refine wpAny_passesOwn hp (wpAny_mono (enum_item (E := X.xe) (elts := elts) (kk := kk) (tpos := tpos) (Q := fun T s4 => ∃ x H4 Hw Hi old', Inv X pins σ3 (upd H4 T (.tup [.int (i : Nat), x])) s4 ∧ H4 T = none ∧ H4 E = none ∧ Zz X X.A.in1 s0.os a gn go M (G M) n (i + 1) (upd H4 T (.tup [.int (i : Nat), x])) s4 ∧
      NX H3 Hw ∧ (G M).out i Hw x Hi ∧ NX Hi H4 ∧ s4.heap.get? E = some (enumO a ((i + 1 : Nat) : Int) old')) hr.hd hd I3 os3 z3 m3 hin e3 ⟨fE, f2.2⟩ fun T s4 x H4 Hw Hi old' a1 a2 a3 a4 a5 a6 a7 a8 => ⟨x, H4, Hw, Hi, old', a1, a2, a3, a4, a5, a6, a7, a8⟩) (fun rr s4 q => ?_) fun _ _ z => z)
    obtain ⟨T, rfl, q⟩ := q
    refine wpAny_passesOwn hp (thn q fun _ s5 q => ?_)
    obtain ⟨x, H4, Hw, Hi, old', I5, nT, nE, z5, n1, ho, n2, e5⟩ := q
    have lT : E ≠ T := fun z => by
      have q := I5.hok T _ upd_same
      obtain ⟨_, its, _, o, q1, q2, _⟩ := q
      rw [← z, e5] at q1
      cases q1
      exact absurd (show (Value.type "enumerate") = Value.type "tuple" from q2) (by decide)
    have fE5 : upd H4 T (.tup [.int (i : Nat), x]) E = none := by rw [upd_ne lT]; exact nE
    have I5' : Inv X ((E, enumO a ((i + 1 : Nat) : Int) old') :: pins) σ3 (upd H4 T (.tup [.int (i : Nat), x])) s5 := I5.pins_of fun p hp => by
      rcases List.mem_cons.mp hp with hp | hp
      · subst hp
        exact ⟨e5, fE5, f2.2.1, f2.2.2.1, fun v q => by cases q⟩
      · exact I5.pin p (List.mem_append_right _ hp)
    refine wpAny_passesOwn hp (wpAny_mono (asg_asleep hg I5' (show RelV (.ref T) (.ref T) from rfl) (turn i σ3 H3 hin w3 x Hw Hi H4 T n1 ho n2 nT)) (fun _ s6 q => ?_) fun _ _ z => False.elim z)
    obtain ⟨⟨σ6, H6, I6, q6⟩, d6⟩ := q
    refine wpAny_passesOwn hp (wpAny_mono (body_asleep hb I6 q6) (fun f s7 q => ?_) fun _ _ z => False.elim z)
    obtain ⟨q7, d7⟩ := q
    have drop : ∀ {σ7 : L2.St} {H7 : Hp}, Inv X ((E, enumO a ((i + 1 : Nat) : Int) old') :: pins) σ7 H7 s7 → Inv X pins σ7 H7 s7 ∧ s7.heap.get? E = some (enumO a ((i + 1 : Nat) : Int) old') ∧ H7 E = none := fun {σ7 H7} I7 =>
      ⟨I7.pins_of fun p hp => I7.pin p (List.mem_append_right _ (List.mem_cons_of_mem _ hp)), let z := I7.pin (E, enumO a ((i + 1 : Nat) : Int) old') (List.mem_append_right _ List.mem_cons_self); ⟨z.1, z.2.1⟩⟩
    have again : ∀ {σ7 : L2.St} {H7 : Hp}, Inv X ((E, enumO a ((i + 1 : Nat) : Int) old') :: pins) σ7 H7 s7 → (ButM M (upd H4 T (.tup [.int (i : Nat), x])) H7 ∧ MOk M H7 ∧ W (i + 1) σ7 H7) →
        ∃ m, m < r ∧ ∃ i σ' H' old, m + i = n ∧ Inv X pins σ' H' s7 ∧ Zz X X.A.in1 s0.os a gn go M (G M) n i H' s7 ∧ MOk M H' ∧ s7.heap.get? E = some (enumO a ((i : Nat) : Int) old) ∧ H' E = none ∧ W i σ' H' := fun {σ7 H7} I7 q => by
      obtain ⟨b7, m7, w7⟩ := q
      obtain ⟨J7, e7, n7⟩ := drop I7
      exact ⟨r - 1, by omega, i + 1, σ7, H7, old', by omega, J7, z5.next (Nat.succ_ne_zero i) b7 (d6.then d7), m7, e7, n7, w7⟩
    cases f with
    | next => obtain ⟨σ7, H7, I7, q⟩ := q7; exact again I7 q
    | cont => obtain ⟨σ7, H7, I7, q⟩ := q7; exact again I7 q
    | brk => obtain ⟨σ7, H7, I7, q⟩ := q7; exact ⟨σ7, H7, (drop I7).1, q⟩
    | ret v => obtain ⟨x7, σ7, H7, I7, r7, q⟩ := q7; exact ⟨x7, σ7, H7, (drop I7).1, r7, q⟩
  · have e : i = n := by omega
    subst e
    refine wpAny_passesOwn hp (wpAny_mono (enum_done (E := X.xe) (Q := fun s4 => SP X pins D .next s4) hr.hd hd I3 os3 z3 m3 e3 fun s4 H4 Hw Hi I4 n1 hf n2 => ⟨σ3, H4, I4, stop σ3 H3 w3 Hw Hi H4 n1 hf n2⟩) (fun rr s4 q => ?_) fun _ _ z => z)
    obtain ⟨rfl, q⟩ := q
    exact wpAny_execs_nil q
end Hd
set_option maxHeartbeats 4000000
/-! A comprehension's block, whatever its loop does. -/
namespace Hd
open PySem PySem.Spec PyProof.Rows L2
section
variable {X : Cx} {pins : List (Addr × Obj)} {s : Shared} {σ : L2.St} {H : Hp} {Q : VK}
/-- the block's own context -/
abbrev blkOf (X : Cx) (s3 : Shared) (H3 : Hp) (scope : Scope) (fp : List Addr) (cl : List (Str × Addr)) (C : Addr) : Cx := X.blk s3 H3 scope (compEnvC scope cl C X.env) fp
theorem blk_coreA {ex tg iter : Expr} {ifs : List Expr} {rest : List Comprehension} {scope : Scope} {own : List (Str × Nat)} {pos' : Pos} {newAcc : Sem Value} {use : Option (Value → Sem Unit)} {Qf : Value → Shared → Prop}
    (hN : X.N.Nodup) (I : Inv X pins σ H s) (ok : BlkOk X.N X.env.scope scope own) (hcl : clausesOf ex = ⟨tg, iter, ifs, 0⟩ :: rest) (hs : ∀ x, foldedSetIterable iter X.env x = pure x)
    (K : Value → List Addr → Hp → Shared → Prop) (o0 : Addr → HO) (ob0 : Obj)
    (h1 : wpAny (model X.prog X.w) X.A (eval iter X.env) (fun v s1 => wpAny (model X.prog X.w) X.A (pyIter v) (fun it s2 => ∃ fp H2, Inv X pins σ H2 s2 ∧ (∀ b ∈ fp, FpOk X pins H2 b ∧ b < s2.heap.objs.size) ∧ K it fp H2 s2) X.xe s1) X.xe s)
    (hnew : ∀ (Q' : Value → Shared → Prop) (s2 : Shared), Q' (.ref s2.heap.objs.size) { s2 with heap := s2.heap.push ob0 } → wpAny (model X.prog X.w) X.A newAcc Q' X.xe s2)
    (hob : ∀ (H' : Hp) (h : Heap), sysModules < h.objs.size → ObjOk X.prog X.w H' (h.push ob0) h.objs.size (o0 h.objs.size))
    (h2 : ∀ (it : Value) (fp : List Addr) (H2 : Hp) (s2 s3 s4 : Shared) (cl : List (Str × Addr)) (D C : Addr), K it fp H2 s2 → H2 D = none → s2.heap.objs.size = D → s3.os = s2.os → s4.gens = s2.gens → (∀ b o, s2.heap.get? b = some o → s4.heap.get? b = some o) → (∀ b ∈ fp, FpOk X pins (upd H2 D (o0 D)) b) →
      Inv (blkOf X s3 (upd H2 D (o0 D)) scope fp cl C) [] (wipe σ (own.map (·.2))) (upd H2 D (o0 D)) s4 →
      codeAny (model X.prog X.w) X.A (.compStart ex 0 it (.ref D) (compEnvC scope cl C X.env)) (fun r s' => ∃ f, r = .ok f ∧ ∃ σ' H', Inv (blkOf X s3 (upd H2 D (o0 D)) scope fp cl C) [] σ' H' s' ∧ Q (.ref D) H') s4)
    (hRR : ∀ D C s' m H', Inv X pins σ H' s' → Q (.ref D) H' → s'.heap.Ns C m → FpOk X pins H' C → compPost (model X.prog X.w) X.A X.xe use Qf (.ref D) C (.ok .next) s') :
    wpAny (model X.prog X.w) X.A (comprehension ex scope X.env pos' newAcc false (eval iter X.env) use) Qf X.xe s := by
  have hfree : ∀ y ∈ scope.names, y.2 = .free → ∃ c, X.env.cells.lookup y.1 = some c := by
    intro y hy e
    have q := ok.free y hy e
    exact I.ok.has _ q
  refine wpAny_comprehension_free (use := use) hcl hs (closure_ok hfree) ok.kind (fun y hy e => by rw [ok.uniq y hy, e]) (thn h1 fun xv s1 hx => thn hx fun itv s2 h2' => ?_)
  obtain ⟨fp, H2, I2, f2, kk⟩ := h2'
  refine hnew _ s2 (newEnv_comp ?_)
  have hDn : H2 s2.heap.objs.size = none := I2.hok.fresh (Nat.le_refl _)
  have I3 : Inv X pins σ (upd H2 s2.heap.objs.size (o0 s2.heap.objs.size)) { s2 with heap := s2.heap.push ob0 } :=
    I2.laid (t' := s2.toks) (fun b o e => Heap.get?_push_of_some _ e) (Nat.le_refl _) (hob _ s2.heap I2.big)
  have f3 : ∀ b ∈ fp, FpOk X pins (upd H2 s2.heap.objs.size (o0 s2.heap.objs.size)) b ∧ b < (s2.heap.push ob0).objs.size := fun b hb => by
    obtain ⟨q, lt⟩ := f2 b hb
    refine ⟨⟨?_, q.2⟩, by rw [Heap.size_push]; exact Nat.lt_succ_of_lt lt⟩
    rw [upd_ne (Nat.ne_of_lt lt)]
    exact q.1
  have I4 := block_start (s := { s2 with heap := s2.heap.push ob0 }) I3 ok hN f3
  have go := h2 itv fp H2 s2 { s2 with heap := s2.heap.push ob0 } { s2 with heap := pushCells ((s2.heap.push ob0).push { cls := .type "dict", data := .dict #[] }) scope.names } (cellsFrom ((s2.heap.push ob0).objs.size + 1) scope.names (cloFrom X.env.cells scope.names [])) s2.heap.objs.size (s2.heap.push ob0).objs.size kk hDn rfl rfl rfl
    (fun b o e => pushCells_keeps _ _ _ _ (Heap.get?_push_of_some _ (Heap.get?_push_of_some _ e))) (fun b hb => (f3 b hb).1) I4
  refine codeAny_mono go fun r s6 q => ?_
  obtain ⟨f, rfl, σ', H', I6, qq⟩ := q
  have I7 : Inv X pins σ H' s6 := I3.call' (ch := fp) I6.os I6.base I6.hok I6.bare fun b hb => by
    obtain ⟨_, q1, _, q3, q4, q5⟩ := (f3 b hb).1
    exact ⟨q3, q1, q4, q5⟩
  have nC : H' (s2.heap.push ob0).objs.size = none := I6.free
  obtain ⟨m, hn, _⟩ := I6.loc
  have fin := hRR s2.heap.objs.size (s2.heap.push ob0).objs.size s6 m H' I7 qq hn (I3.fpOk (Nat.le_refl _) nC)
  cases use with
  | none => exact fin
  | some u => exact fin
theorem blk_core {ex tg iter : Expr} {ifs : List Expr} {rest : List Comprehension} {scope : Scope} {own : List (Str × Nat)} {pos' : Pos} {newAcc : Sem Value} {use : Option (Value → Sem Unit)} {Qf : Value → Shared → Prop}
    (hN : X.N.Nodup) (I : Inv X pins σ H s) (ok : BlkOk X.N X.env.scope scope own) (hcl : clausesOf ex = ⟨tg, iter, ifs, 0⟩ :: rest) (hs : ∀ x, foldedSetIterable iter X.env x = pure x)
    (K : Value → List Addr → Hp → Shared → Prop) (o0 : HO) (ob0 : Obj)
    (h1 : wpAny (model X.prog X.w) X.A (eval iter X.env) (fun v s1 => wpAny (model X.prog X.w) X.A (pyIter v) (fun it s2 => ∃ fp H2, Inv X pins σ H2 s2 ∧ (∀ b ∈ fp, FpOk X pins H2 b ∧ b < s2.heap.objs.size) ∧ K it fp H2 s2) X.xe s1) X.xe s)
    (hnew : ∀ (Q' : Value → Shared → Prop) (s2 : Shared), Q' (.ref s2.heap.objs.size) { s2 with heap := s2.heap.push ob0 } → wpAny (model X.prog X.w) X.A newAcc Q' X.xe s2)
    (hob : ∀ (H' : Hp) (h : Heap), sysModules < h.objs.size → ObjOk X.prog X.w H' (h.push ob0) h.objs.size o0)
    (h2 : ∀ (it : Value) (fp : List Addr) (H2 : Hp) (s2 s3 s4 : Shared) (cl : List (Str × Addr)) (D C : Addr), K it fp H2 s2 → H2 D = none → s2.heap.objs.size = D → s3.os = s2.os → s4.gens = s2.gens → (∀ b o, s2.heap.get? b = some o → s4.heap.get? b = some o) → (∀ b ∈ fp, FpOk X pins (upd H2 D o0) b) →
      Inv (blkOf X s3 (upd H2 D o0) scope fp cl C) [] (wipe σ (own.map (·.2))) (upd H2 D o0) s4 →
      codeAny (model X.prog X.w) X.A (.compStart ex 0 it (.ref D) (compEnvC scope cl C X.env)) (fun r s' => ∃ f, r = .ok f ∧ ∃ σ' H', Inv (blkOf X s3 (upd H2 D o0) scope fp cl C) [] σ' H' s' ∧ Q (.ref D) H') s4)
    (hRR : ∀ D C s' m H', Inv X pins σ H' s' → Q (.ref D) H' → s'.heap.Ns C m → FpOk X pins H' C → compPost (model X.prog X.w) X.A X.xe use Qf (.ref D) C (.ok .next) s') :
    wpAny (model X.prog X.w) X.A (comprehension ex scope X.env pos' newAcc false (eval iter X.env) use) Qf X.xe s :=
  blk_coreA hN I ok hcl hs K (fun _ => o0) ob0 h1 hnew hob h2 hRR
/-- behind it, as a value -/
theorem blk_val {D C : Addr} {s' : Shared} {m : Str → Option Value} {H' : Hp} (I' : Inv X pins σ H' s') (q : Q (.ref D) H') (hn : s'.heap.Ns C m) (f : FpOk X pins H' C) : compPost (model X.prog X.w) X.A X.xe none (EP X pins σ Q) (.ref D) C (.ok .next) s' := by
  refine ⟨m, hn, fun h2 sb => ⟨.ref D, H', ?_, rfl, q⟩⟩
  obtain ⟨f0, f1, f2, f3, f4, f5⟩ := f
  exact I'.turned (t' := s'.toks) (fun b o hb e => (sb.2 b hb).trans e) f0 f1 f3 f4 f5
/-- .. as what a local name is set to -/
theorem blk_set {i : Nat} {y : Str} {py : Pos} {Dn : Ends} {L C : Addr} {s' : Shared} {m : Str → Option Value} {H' : Hp} (hN : X.N.Nodup) (hy : X.N[i]? = some y) (hyl : X.env.scope.names.lookup y = some .local)
    (I' : Inv X pins σ H' s') (q : Dn.nx (σ.set i (some (.ref L))) H') (hn : s'.heap.Ns C m) (f : FpOk X pins H' C) :
    compPost (model X.prog X.w) X.A X.xe (some (assign (.Name y py) X.env)) (fun _ s2 => SP X pins Dn .next s2) (.ref L) C (.ok .next) s' := by
  show wpAny _ _ (assign (.Name y py) X.env (.ref L)) _ _ _
  refine wpAny_assign_Name (store_ok2 (v := V.ref L) I' hN hy (.inl hyl) rfl (fun s2 I2 hw => ?_) (.inr hyl))
  obtain ⟨a, sb, ha⟩ := hw
  obtain ⟨f0, f1, f2, f3, f4, f5⟩ := f
  have haC : C ≠ a := by
    rcases ha with z | z
    · exact fun e => f1 (e.trans z)
    · exact fun e => f4 y a z e.symm
  refine ⟨m, hn.sameBut sb haC, fun h3 sb3 => ?_⟩
  exact ⟨_, H', I2.turned (t' := s2.toks) (fun b o hb e => (sb3.2 b hb).trans e) f0 f1 f3 f4 f5, q⟩
/-- what stands of a walked iterator's objects within the block -/
theorem blk_fp {s3 s' : Shared} {H3 H' : Hp} {scope : Scope} {fp : List Addr} {cl : List (Str × Addr)} {C : Addr} {σ' : L2.St} (I' : Inv (blkOf X s3 H3 scope fp cl C) [] σ' H' s') (hn : ∀ b ∈ fp, H' b = none) : ∀ b ∈ fp, FpOk (blkOf X s3 H3 scope fp cl C) [] H' b := fun b hb => by
  have q := I'.ok.exf b hb
  exact ⟨hn b hb, q.1, I'.ok.exfs b hb, .inl hb, fun x c e => q.2 x c e, fun p hp => absurd (show p ∈ ([] : List (Addr × Obj)) ++ [] from hp) (by simp)⟩
end

/-! ### dict comprehensions, the keys tuples -/
theorem set_tupKey {X : Cx} {pins : List (Addr × Obj)} {σ : L2.St} {H : Hp} {s : Shared} {E : Value → Shared → Prop} {D b : Addr} {kvs : List (List Key × V)} {k : List Key} {v : V} {u r : Value} {Q : Unit → Shared → Prop} (hu : X.A.units + 1 < cLine) (I : Inv X pins σ H s) (hD : H D = some (.dT kvs))
    (hz : kvs.length < sizeLine) (hb : H b = some (.tup (k.map kV))) (ry : u = .ref b) (rv : RelV v r) (h : ∀ s', Inv X pins σ (upd H D (.dT (putK kvs k v))) s' → Q () s') : wpAny (model X.prog X.w) X.A (dictSet D u r) Q E s := by
  subst ry
  obtain ⟨z, hd, xs, rel, dd⟩ := dt_of I.hok hD
  have hzx : xs.length ≤ sizeLine := by rw [← Paired.length rel]; exact z
  have hl : (putK kvs k v).length ≤ sizeLine := by have := length_putK kvs k v; omega
  refine wpAny_dictSet_heap (hsz := hzx) (show X.A.units < cLine by omega) (key_of I.hok hb) dd fun h' dd' hs => h _ ?_
  obtain ⟨q, es, ep, hq, q2, q3, q4, _, q5⟩ := dd'
  refine d_write I (by rw [hD]; exact True.intro) hs ⟨q, hq⟩ ⟨hl, hd, _, (rel.put k hb rv).keeps fun c ys ec => ?_, q, es, ep, hq, q2, q3, q4, q5⟩
  rw [upd_ne (ne_of ec hD fun z => nomatch z)]
  exact ec
section
variable {X : Cx}
def tDcT (wi : TI) (g : TG) (tt : TT) (tk tv : TE) (vs : List Nat) : TE := fun σ H Q => wi σ H fun J H1 => ∀ D, H1 D = none → ∃ W : Nat → Nat → Hp → Prop, (∃ m, W 0 m (upd H1 D (.dT []))) ∧ ∀ i m H, W i m H →
  (J.stop i H ∧ Q (.ref D) H) ∨ (J.go i H ∧ ∃ Nx : Hp → Prop, (∀ H', Nx H' → ∃ m', m' < m ∧ W (i + 1) m' H') ∧ ∀ x H', J.yld i H x H' → g x (wipe σ vs) H' fun σ2 H2 => wipe σ2 vs = wipe σ vs ∧ tt σ2 H2 fun b H3 =>
    if b = true then tk σ2 H3 fun y H4 => tv σ2 H4 fun z H5 => ∃ kvs k b, y = .ref b ∧ H5 b = some (.tup (List.map kV k)) ∧ H5 D = some (.dT kvs) ∧ kvs.length < sizeLine ∧ Nx (upd H5 D (.dT (putK kvs k z))) else Nx H3)
theorem dcT_core {pins : List (Addr × Obj)} {s : Shared} {σ : L2.St} {H : Hp} {Q : VK} {kx vx tg iter : Expr} {ifs : List Expr} {scope : Scope} {own : List (Str × Nat)} {pos pos' : Pos} {wi : TI} {g : TG} {tt : TT} {tk tv : TE} {use : Option (Value → Sem Unit)} {Qf : Value → Shared → Prop}
    (hu : X.A.units + 1 < cLine) (hc : X.calm = true) (hN : X.N.Nodup) (I : Inv X pins σ H s) (hi : PI X tg iter wi) (ok : BlkOk X.N X.env.scope scope own)
    (B : ∀ (s : Shared) (H : Hp) (fp : List Addr) (cl : List (Str × Addr)) (C : Addr), PG (blkOf X s H scope fp cl C) tg g ∧ PTs (blkOf X s H scope fp cl C) ifs tt ∧ PE (blkOf X s H scope fp cl C) kx tk ∧ PE (blkOf X s H scope fp cl C) vx tv) (hs : ∀ x, foldedSetIterable iter X.env x = pure x)
    (h : tDcT wi g tt tk tv (own.map (·.2)) σ H Q)
    (hRR : ∀ D C s' m H', Inv X pins σ H' s' → Q (.ref D) H' → s'.heap.Ns C m → FpOk X pins H' C → compPost (model X.prog X.w) X.A X.xe use Qf (.ref D) C (.ok .next) s') :
    wpAny (model X.prog X.w) X.A (comprehension (.DictComp kx vx [⟨tg, iter, ifs, 0⟩] scope pos) scope X.env pos' newDict false (eval iter X.env) use) Qf X.xe s := by
  refine blk_core (own := own) hN I ok rfl hs (fun itv fp H2 s2 => ∃ it tn J, itv = .ref it ∧ Turn X.prog X.w X.K tg J fp it tn ∧ tn 0 s2.heap ∧ ∀ D, H2 D = none → ∃ W : Nat → Nat → Hp → Prop, (∃ m, W 0 m (upd H2 D (.dT []))) ∧ ∀ i m H, W i m H →
    (J.stop i H ∧ Q (.ref D) H) ∨ (J.go i H ∧ ∃ Nx : Hp → Prop, (∀ H', Nx H' → ∃ m', m' < m ∧ W (i + 1) m' H') ∧ ∀ x H', J.yld i H x H' → g x (wipe σ (own.map (·.2))) H' fun σ2 H2 => wipe σ2 (own.map (·.2)) = wipe σ (own.map (·.2)) ∧ tt σ2 H2 fun b H3 =>
      if b = true then tk σ2 H3 fun y H4 => tv σ2 H4 fun z H5 => ∃ kvs k b, y = .ref b ∧ H5 b = some (.tup (List.map kV k)) ∧ H5 D = some (.dT kvs) ∧ kvs.length < sizeLine ∧ Nx (upd H5 D (.dT (putK kvs k z))) else Nx H3))
    (.dT []) { cls := .type "dict", data := .dict #[] } ?_ (fun Q' s2 q => wpAny_newObj_type q) (fun H' h hb => dt_empty h hb) ?_ hRR
  · refine thn (hi.run pins s σ H _ I h) fun v s1 q => thn q fun itv s2 q => ?_
    obtain ⟨it, fp, tn, J, H2, e, I2, T, st, f, q⟩ := q
    refine ⟨fp, H2, I2, fun b hb => ⟨f b hb, ?_⟩, it, tn, J, e, T, st, q⟩
    obtain ⟨o, e, _⟩ := T.obj _ _ st b hb
    exact Heap.lt_size e
  · intro itv fp H2 s2 s3 s4 cl D C kk hDn hDs ho3 hg hkp hfp I4
    obtain ⟨it, tn, J, rfl, T, st2, q⟩ := kk
    obtain ⟨W, ⟨m0, w0⟩, turn⟩ := q D hDn
    obtain ⟨pg, pt, pk, pv⟩ := B s3 (upd H2 D (.dT [])) fp cl C
    have st4 : tn 0 s4.heap := T.keep _ _ _ st2 fun b _ o e => hkp b o e
    have loop : codeAny (model X.prog X.w) X.A (.compLoop (.DictComp kx vx [⟨tg, iter, ifs, 0⟩] scope pos) 0 (.ref it) (.ref D) (compEnvC scope cl C X.env)) (fun r s' => ∃ f, r = .ok f ∧ ∃ σ' H', Inv (blkOf X s3 (upd H2 D (.dT [])) scope fp cl C) [] σ' H' s' ∧ Q (.ref D) H') s4 := by
      refine compLoop_anyD (fun n s' => ∃ i H', Inv (blkOf X s3 (upd H2 D (.dT [])) scope fp cl C) [] (wipe σ (own.map (·.2))) H' s' ∧ tn i s'.heap ∧ (∀ b ∈ fp, H' b = none) ∧ W i n H') ?_ m0 ⟨0, _, I4, st4, fun b hb => (hfp b hb).1, w0⟩
      rintro n s5 ⟨i, H5, I5, st5, n5, w5⟩
      rcases turn i n H5 w5 with ⟨stop, qq⟩ | ⟨gg, Nx, hNx, step⟩
      · refine thnF (T.done (blkOf X s3 (upd H2 D (.dT [])) scope fp cl C) rfl rfl rfl hc i [] s5 _ H5 (fun _ _ => False) I5 (blk_fp I5 n5) st5 stop) fun r s6 q => ?_
        obtain ⟨rfl, I6⟩ := q
        exact ⟨.next, rfl, _, H5, I6, qq⟩
      · refine thnF (T.item (blkOf X s3 (upd H2 D (.dT [])) scope fp cl C) rfl rfl rfl hc i [] s5 _ H5 (fun _ _ => False) I5 (blk_fp I5 n5) st5 gg) fun r s6 q => ?_
        obtain ⟨u, rfl, q⟩ := q
        refine thnF q fun _ s7 q => ?_
        obtain ⟨x, H7, I7, r7, y7, st7, n7⟩ := q
        have I7p := I7.pinned (blk_fp I7 n7) (T.obj _ _ st7)
        refine thnF (pg.run _ s7 _ H7 x u _ I7p r7 (step x H7 y7)) fun _ s8 q => ?_
        obtain ⟨σ8, H8, I8, hw8, q8⟩ := q
        refine thnF (pt.run _ s8 σ8 H8 _ I8 q8) fun b s9 q => ?_
        obtain ⟨H9, I9, q9⟩ := q
        have fin : ∀ {s' : Shared} {H' : Hp}, Inv (blkOf X s3 (upd H2 D (.dT [])) scope fp cl C) ([] ++ pinsAt fp s7.heap) σ8 H' s' → Nx H' → ∃ m, m < n ∧ ∃ i H', Inv (blkOf X s3 (upd H2 D (.dT [])) scope fp cl C) [] (wipe σ (own.map (·.2))) H' s' ∧ tn i s'.heap ∧ (∀ b ∈ fp, H' b = none) ∧ W i m H' := by
          intro s' H' I' nx
          obtain ⟨m', hm, w'⟩ := hNx H' nx
          have pin' : ∀ b ∈ fp, ∀ o, s7.heap.get? b = some o → s'.heap.get? b = some o ∧ H' b = none := by
            intro b hb o e
            have z := I'.pin (b, o) (List.mem_append_right _ (List.mem_append_right _ (mem_pinsAt hb e)))
            exact ⟨z.1, z.2.1⟩
          have hl : (wipe σ (own.map (·.2))).length = σ8.length := by
            rw [← hw8]
            exact wipe_length _ _
          refine ⟨m', hm, i + 1, H', (I'.unpinned (pins := [])).weak hl ?_, T.keep _ _ _ st7 fun b hb o e => (pin' b hb o e).1, ?_, w'⟩
          · intro j v e
            rw [← hw8] at e
            exact (wipe_some e).1
          · intro b hb
            obtain ⟨o, e, _⟩ := T.obj _ _ st7 b hb
            exact (pin' b hb o e).2
        cases b with
        | false => exact fin I9 q9
        | true =>
          refine thnF (pk.run _ s9 σ8 H9 _ I9 q9) fun z s10 q => ?_
          obtain ⟨yk, H10, I10, r10, q10⟩ := q
          refine thnF (pv.run _ s10 σ8 H10 _ I10 q10) fun z2 s11 q => ?_
          obtain ⟨yv, H11, I11, r11, kvs, k, kb, ek, hkb, hD11, hz11, nx⟩ := q
          subst ek
          exact set_tupKey (X := blkOf X s3 (upd H2 D (.dT [])) scope fp cl C) hu I11 hD11 hz11 hkb r10 r11 fun s12 I12 => fin I12 nx
    exact codeAny_compStart_dict loop (T.self X.A 0 _ _ _ st4 loop)
theorem pe_dcT {kx vx tg iter : Expr} {ifs : List Expr} {scope : Scope} {own : List (Str × Nat)} {pos : Pos} {wi : TI} {g : TG} {tt : TT} {tk tv : TE} (hu : X.A.units + 1 < cLine) (hc : X.calm = true) (hN : X.N.Nodup) (hi : PI X tg iter wi) (ok : BlkOk X.N X.env.scope scope own)
    (B : ∀ (s : Shared) (H : Hp) (fp : List Addr) (cl : List (Str × Addr)) (C : Addr), PG (blkOf X s H scope fp cl C) tg g ∧ PTs (blkOf X s H scope fp cl C) ifs tt ∧ PE (blkOf X s H scope fp cl C) kx tk ∧ PE (blkOf X s H scope fp cl C) vx tv) (hs : ∀ x, foldedSetIterable iter X.env x = pure x := by intro _; rfl) :
    PE X (.DictComp kx vx [⟨tg, iter, ifs, 0⟩] scope pos) (tDcT wi g tt tk tv (own.map (·.2))) := by
  refine ⟨fun pins s σ H Q I h => ?_⟩
  rw [arm_eval_DictComp]
  exact dcT_core hu hc hN I hi ok B hs h fun D C s' m H' I' q hn f => blk_val I' q hn f
end
end Hd
set_option maxHeartbeats 4000000
/-! Dicts with tuple keys: truth, a display of one pair, items walked; what is never written again stands locked. -/
namespace Hd
open PySem PySem.Spec PyProof.Rows L2
section
variable {prog : Program} {w : World} {A : Around} {E : Value → Shared → Prop} {s : Shared}
theorem truthy_dT {κ : Type} [DecidableEq κ] {knd : HeapKind prog w κ} {d : Addr} {xs : List (κ × Addr × Value)} {Q : Bool → Shared → Prop} (hd : (d == sysModules) = false) (hm : s.heap.DictOfH knd d xs) (hfit : (xs.length : Int) < 2 ^ 63)
    (h : Q (!xs.isEmpty) { s with toks := s.toks + 1 + 1 }) : wpAny (model prog w) A (truthy (.ref d)) Q E s := by
  have hne : ((xs.length : Int) != 0) = !xs.isEmpty := by
    cases xs with
    | nil => rfl
    | cons a l =>
      simp only [List.length_cons, List.isEmpty_cons, Bool.not_false, bne_iff_ne, ne_eq]
      omega
  have key : wpAny (model prog w) A (runValue (.builtin "len" ⟨[.ref d], []⟩)) (fun r s' => r = .int xs.length (s.toks + 1) ∧ Q (!xs.isEmpty) s') E s := by
    refine wpAny_runValue (codeAny_builtin entry_len ?_)
    rw [Around.under_plainId plain_len _]
    refine wpAny_mono (wpAny_len_body_dictH (Q := fun r s' => r = .int xs.length (s.toks + 1) ∧ Q (!xs.isEmpty) s') hd hm hfit ⟨rfl, h⟩) (fun fin s' q => ?_) fun _ _ e => e
    obtain ⟨r, rfl, q⟩ := q
    exact q
  unfold truthy
  refine wpAny_bind (wpAny_callSpecial?_none (name := Str.ofString "__bool__") hm.typeIs noBool_dict ?_)
  refine wpAny_bind (wpAny_specialOf (name := Str.ofString "__len__") hm.typeIs F.slot_dict_len.lookup ?_)
  refine wpAny_bind (wpAny_mono key (fun r s' q => ?_) fun _ _ e => e)
  obtain ⟨rfl, q⟩ := q
  exact wpAny_pure (hne ▸ q)
end
section
variable {X : Cx}
def tTruT (te : TE) : TT := fun σ H Q => te σ H fun x H1 => ∃ a kvs, x = .ref a ∧ Rd H1 a (.dT kvs) ∧ Q (!kvs.isEmpty) H1
theorem pt_truT {e : Expr} {te : TE} (h : PE X e te) (he : ∀ whole, isTrue e X.env whole = (do let v ← whole; standAt e.pos; holding [v] (truthy v)) := by intro _; rfl) : PT X e (tTruT te) := by
  refine ⟨fun pins s σ H Q I hw => ?_⟩
  refine isTrue_plain (thn (h.run pins s σ H _ I hw) fun v s1 q => ?_) (he _)
  obtain ⟨x, H1, I1, r1, a, kvs, rfl, hr, q⟩ := q
  obtain rfl : v = .ref a := r1
  obtain ⟨z, hd, xs, rel, dd⟩ := dt_rd I1.hok hr
  have hl : kvs.length = xs.length := Paired.length rel
  refine truthy_dT hd dd (by rw [← hl]; rw [sizeLine_eq] at z; omega) ?_
  have e1 : kvs.isEmpty = xs.isEmpty := by
    cases kvs <;> cases xs <;> first | rfl | (simp at hl)
  rw [← e1]
  exact ⟨H1, I1.tok _, q⟩
/-- what is never written again stands locked from here on -/
def tFrz (t : TS) : TS := fun D σ H => t { D with nx := fun σ' H' => ∃ d u, H' d = some u ∧ Mut (some u) ∧ ∀ od, D.nx σ' (upd H' d (.frz od u)) } σ H
theorem ps_frz {st : Stmt} {t : TS} (h : PS X st t) : PS X st (tFrz t) := by
  refine ⟨fun pins s σ H D I hw => ?_⟩
  refine thn (h.run pins s σ H _ I hw) fun f s1 q => ?_
  cases f with
  | next =>
    obtain ⟨σ', H', I', d, u, hd, mu, q⟩ := q
    obtain ⟨od, I2⟩ := I'.lock hd mu
    exact ⟨σ', _, I2, q od⟩
  | brk => exact q
  | cont => exact q
  | ret v => exact q
def tFrzE (t : TE) : TE := fun σ H Q => t σ H fun x H' => ∃ d u, H' d = some u ∧ Mut (some u) ∧ ∀ od, Q x (upd H' d (.frz od u))
theorem pe_frz {e : Expr} {t : TE} (h : PE X e t) : PE X e (tFrzE t) := by
  refine ⟨fun pins s σ H Q I hw => ?_⟩
  refine thn (h.run pins s σ H _ I hw) fun v s1 q => ?_
  obtain ⟨x, H', I', r, d, u, hd, mu, q⟩ := q
  obtain ⟨od, I2⟩ := I'.lock hd mu
  exact ⟨x, _, I2, r, q od⟩
/-- {k: v}, the key a tuple -/
def tDisp1 (tk tv : TE) : TE := fun σ H Q => ∀ p, H p = none → tk σ (upd H p (.dT [])) fun x H1 => tv σ H1 fun y H2 => ∃ b k, x = .ref b ∧ H2 b = some (.tup (List.map kV k)) ∧ H2 p = some (.dT []) ∧ Q (.ref p) (upd H2 p (.dT [(k, y)]))
theorem pe_disp1 {k v : Expr} {pos : Pos} {tk tv : TE} (hu : X.A.units < cLine) (hk : PE X k tk) (hv : PE X v tv) : PE X (.Dict [some k] [v] pos) (tDisp1 tk tv) := by
  refine ⟨fun pins s σ H Q I h => ?_⟩
  have hn := I.hok.fresh (Nat.le_refl s.heap.objs.size)
  have I1 := I.laid (a := s.heap.objs.size) (o := .dT []) (h' := s.heap.push { cls := .type "dict", data := .dict #[] }) (t' := s.toks) (fun _ _ q => Heap.get?_push_of_some _ q) (Nat.le_refl _) (dt_empty s.heap I.big)
  have hh := h _ hn
  have shape : (evalEachOpt [some k] X.env).zip ((evalEach [v] X.env).map fun v => do let x ← v; standAt pos; pure x) = (pairTrees [some k] [v] X.env pos).map fun p => (some p.1, p.2) := zip_pairTrees [some k] [v] X.env pos rfl rfl
  rw [arm_eval_Dict, shape, dictDisplay_pairs (pairTrees [some k] [v] X.env pos) (by simp [pairTrees]) (by show (1 : Nat) < 17; omega)]
  refine wpAny_bind (wpAny_standAt (wpAny_bind (wpAny_subDictH (knd := tupleKind (mixKind X.prog X.w)) hu (by show (1 : Nat) ≤ 15; omega) ?_)))
  refine pairTrees_cons_walk (thn (hk.run pins _ σ _ _ I1 hh) fun u s1 q => ?_)
  obtain ⟨x, H1, I2, rx, q⟩ := q
  refine thn (hv.run pins s1 σ H1 _ I2 q) fun u2 s2 q => ?_
  obtain ⟨y, H2, I3, ry, b, kk, rfl, hb, hp, q⟩ := q
  refine pairTrees_nil_walk ?_
  obtain rfl : u = .ref b := rx
  obtain ⟨z, hd, xs, rel, dd⟩ := dt_of I3.hok hp
  cases rel
  refine ⟨[(kk, b, u2)], ⟨rfl, rfl, key_of I3.hok hb, True.intro⟩, dd, fun h' tk dd' hs => wpAny_pure ?_⟩
  have dd2 : h'.DictOfH (tupleKind (mixKind X.prog X.w)) s.heap.objs.size [(kk, b, u2)] := dd'
  obtain ⟨o, es, ep, ho, q2, q3, q4, _, q5⟩ := dd2
  have w := d_write (h' := h') (t' := tk) (ob := .dT [(kk, y)]) I3 (by rw [hp]; exact True.intro) hs ⟨o, ho⟩ ⟨by show 1 ≤ sizeLine; decide, hd, [(kk, b, u2)], .cons ⟨rfl, ?_, ry⟩ .nil, o, es, ep, ho, q2, q3, q4, q5⟩
  · exact ⟨.ref s.heap.objs.size, _, w, rfl, q⟩
  · rw [upd_ne (ne_of hb hp fun z => nomatch z)]
    exact hb
end

/-! ### d.items() -/
/-- the pairs of the locked dict, each a new tuple of the key's own tuple and the value -/
def Itit (d : Addr) (o : Obj) (kvs : List (List Key × V)) : It :=
  ⟨fun i H => H d = some (.frz o (.dT kvs)) ∧ i < kvs.length, fun i H x H' => ∃ T k v q, kvs[i]? = some (k, v) ∧ x = .ref T ∧ H T = none ∧ H q = some (.tup (List.map kV k)) ∧ H' = upd H T (.tup [.ref q, v]), fun i H => H d = some (.frz o (.dT kvs)) ∧ kvs.length ≤ i⟩
theorem frzT_raw {X : Cx} {pins : List (Addr × Obj)} {σ : L2.St} {H : Hp} {s : Shared} {d : Addr} {o : Obj} {kvs : List (List Key × V)} (I : Inv X pins σ H s) (h : H d = some (.frz o (.dT kvs))) :
    (d == sysModules) = false ∧ ∃ es ep, s.heap.DictRaw d es ep ∧ o.data = .dict es ep ∧ es.size = kvs.length ∧ ∀ i k v (hi : i < es.size), kvs[i]? = some (k, v) → ∃ q, es[i].key = .ref q ∧ H q = some (.tup (List.map kV k)) ∧ RelV v es[i].val := by
  obtain ⟨hd, z, hs, xs, pr, o', es, ep, ho, hx, hdt, he, _⟩ := I.hok d _ h
  rw [hd] at ho
  cases ho
  have l1 : es.size = xs.length := size_of_entries he
  have l2 : kvs.length = xs.length := Paired.length pr
  refine ⟨hs, es, ep, ⟨o, hd, hx, hdt⟩, hdt, by omega, fun i k v hi e => ?_⟩
  obtain ⟨b, hb, e1, e2, e3⟩ := paired_get pr e
  have q := entry_at he i
  rw [hb] at q
  rw [Array.getElem?_eq_getElem hi] at q
  have q' : es[i] = _ := Option.some.inj q
  rw [q']
  exact ⟨b.2.1, rfl, e2, e3⟩
theorem turn_itemsT {P : Program} {w : World} {K : PySem.W.Frag} {d : Addr} {o : Obj} {es : Array DictEntry} {ep : Nat} {kvs : List (List Key × V)} {elts : List Expr} {kk : Nat} {tpos : Pos} (it : Addr) (hod : o.data = .dict es ep) (hsz0 : es.size = kvs.length) :
    Turn P w K (.Tuple elts kk tpos) (Itit d o kvs) [it] it (fun i h => ∃ ok ov, IsItemIter h it d i es.size ep ok ov) where
  mem := List.mem_singleton.mpr rfl
  obj := fun i h st b hb => by
    have e : b = it := List.mem_singleton.mp hb
    subst e
    obtain ⟨ok, ov, e⟩ := st
    exact ⟨_, e, fun v z => nomatch z⟩
  keep := fun i h h' st k => by
    obtain ⟨ok, ov, e⟩ := st
    exact ⟨ok, ov, k it (List.mem_singleton.mpr rfl) _ e⟩
  item := by
    intro X hP hw hK hc i pins s σ H E I hf st hg
    subst hP hw hK
    obtain ⟨hd, hi⟩ := hg
    obtain ⟨hs, es', ep', hm, hdt, hsz, ent⟩ := frzT_raw I hd
    obtain ⟨rfl, rfl⟩ := dict_ep hod hdt
    obtain ⟨⟨k, v⟩, hkv⟩ : ∃ p, kvs[i]? = some p := ⟨kvs[i], List.getElem?_eq_getElem hi⟩
    have hie : i < es'.size := by omega
    obtain ⟨q, hq1, hq2, hq3⟩ := ent i k v hie hkv
    obtain ⟨ok, ov, he⟩ := st
    have hlt : it < s.heap.objs.size := Heap.lt_size he
    refine wpAny_pyNext_items_item_raw he hm hie fun h' ho hT hz hk => ?_
    refine ⟨_, rfl, wpAny_letOwnedTupleGo_items (s := { s with heap := h' }) ho fun h'' he' sb => ?_⟩
    have hT2 := (sb.2 s.heap.objs.size (Nat.ne_of_gt hlt)).trans hT
    rw [hq1] at hT2
    have new : ObjOk X.prog X.w (upd H s.heap.objs.size (.tup [.ref q, v])) h'' s.heap.objs.size (.tup [.ref q, v]) :=
      ⟨by show 2 ≤ sizeLine; decide, [.ref q, es'[i].val], .cons rfl (.cons hq3 .nil), ⟨_, hT2, rfl, _, rfl⟩⟩
    have I1 : Inv X pins σ (upd H s.heap.objs.size (.tup [.ref q, v])) { s with heap := h'' } := by
      refine I.turnedNew (t' := s.toks) (ch := [it]) (fun b ob hb e => ?_) hf (Nat.le_refl _) new
      have nb : b ≠ it := fun z => hb (List.mem_singleton.mpr z)
      exact (sb.2 b nb).trans (hk b ob nb e)
    refine ⟨.ref s.heap.objs.size, _, I1, rfl, ⟨_, k, v, q, hkv, rfl, I.hok.fresh (Nat.le_refl _), hq2, rfl⟩, ⟨_, _, he'⟩, fun b hb => ?_⟩
    have e : b = it := List.mem_singleton.mp hb
    rw [e, upd_ne (Nat.ne_of_lt hlt)]
    exact (hf it (List.mem_singleton.mpr rfl)).1
  done := by
    intro X hP hw hK hc i pins s σ H E I hf st hg
    subst hP hw hK
    obtain ⟨hd, hi⟩ := hg
    obtain ⟨f0, f1, f2, f3, f4, f5⟩ := hf it (List.mem_singleton.mpr rfl)
    obtain ⟨hs, es', ep', hm, hdt, hsz, ent⟩ := frzT_raw I hd
    obtain ⟨rfl, rfl⟩ := dict_ep hod hdt
    obtain ⟨ok, ov, he⟩ := st
    refine wpAny_pyNext_items_end_raw (I.ok.hd hc) he hm (by omega) fun h' eb => ⟨rfl, ?_⟩
    exact I.turned (t' := s.toks) (fun b ob hb e => eb b ob hb e) f0 f1 f3 f4 f5
  self := fun A i s Q E st h => by
    obtain ⟨_, _, e⟩ := st
    exact PySem.W.kcp_self e h
def iItemsT (td : TE) : TI := fun σ H R => td σ H fun x H1 => ∃ d o kvs, x = .ref d ∧ H1 d = some (.frz o (.dT kvs)) ∧ R (Itit d o kvs) H1
theorem pi_itemsT {X : Cx} {e : Expr} {td : TE} {apos cpos : Pos} {elts : List Expr} {kk : Nat} {tpos : Pos} (he : PE X e td) (hbase : attributeBase e "items" X.env (eval e X.env) = eval e X.env := by rfl) (hline : (apos.endLine == cpos.line) = true := by rfl) :
    PI X (.Tuple elts kk tpos) (.Call (.Attribute e "items" apos) [] [] cpos) (iItemsT td) := by
  refine ⟨fun pins s σ H R I h => ?_⟩
  refine wpAny_Call_method (T := "dict") (id := "dict.items") hbase rfl hline F.plainAttrs_dict F.slot_dict_items F.type_dict_items (thn (he.run pins s σ H _ I h) fun u s1 q => ?_)
  obtain ⟨x, H1, I1, rx, d, o, kvs, rfl, hd, q⟩ := q
  obtain rfl : u = Value.ref d := rx
  obtain ⟨hs, es, ep, hm, hdt, hsz, ent⟩ := frzT_raw I1 hd
  obtain ⟨od, ho1, ho2, ho3⟩ := id hm
  refine ⟨hm.typeIs, ?_, ?_⟩
  · exact fun a e => by cases e; exact ⟨od, ho1, ho2.2.1⟩
  · have I2 : Inv X pins σ H1 { s1 with heap := s1.heap.push { cls := .type "dict_items", data := .fields #[.ref d] } } := I1.kept (t' := s1.toks) fun b ob q => Heap.get?_push_of_some _ q
    have fin : wpAny (model X.prog X.w) X.A (pyIter (.ref s1.heap.objs.size)) (PIE X pins σ (.Tuple elts kk tpos) R) X.xe { s1 with heap := s1.heap.push { cls := .type "dict_items", data := .fields #[.ref d] } } := by
      refine wpAny_pyIter_items_raw (d := d) ⟨_, Heap.get?_push_size _ rfl, rfl, rfl⟩ (hm.at fun o e => Heap.get?_push_of_some _ e) (pi_one (tk := s1.toks) I2 _ (turn_itemsT _ hdt hsz) ⟨.none, .none, ?_⟩ q)
      exact Heap.get?_push_size _ rfl
    show wpAny _ _ (callWith cpos (.builtin "dict.items") [.ref d] [] []) _ X.xe s1
    exact method_meetsIn F.slot_dict_items F.entry_dict_items rfl (PySem.evalArgs_none ⟨rfl, hm.typeIs, F.args_dict_items_1 _, _, meets_dict_items_raw d hs, ⟨⟨es, ep, hm⟩, fin⟩⟩)
end Hd
set_option maxHeartbeats 4000000
/-! [elt for x in g for y in x], g a generator. -/
namespace Hd
open PySem PySem.Spec PyProof.Rows L2
section
variable {X : Cx}
/-- x is walked within the turn; what is the consumer's own is the new list D -/
def tLcG (t : TGm) (g : TG) (wi1 : TI) (g1 : TG) (te : TE) (vs vs1 : List Nat) : TE := fun σ H Q => t σ H fun G n a H1 => ∀ D, H1 D = none → ∃ W : Nat → Hp → Prop, W 0 (upd H1 D (.lst [])) ∧
  (∀ i H, i < n → W i H → ∀ x Hw Hi H', NX H Hw → (G [D]).out i Hw x Hi → NX Hi H' → g x (wipe σ vs) H' fun σ2 H2 => wipe σ2 vs = wipe σ vs ∧ wi1 σ2 H2 fun J1 H4 => ∃ W1 : Nat → Nat → Hp → Prop, (∃ m, W1 0 m H4) ∧ ∀ j k H, W1 j k H →
    (J1.stop j H ∧ ButM [D] H' H ∧ MOk [D] H ∧ W (i + 1) H) ∨ (J1.go j H ∧ ∃ Nx1 : Hp → Prop, (∀ H', Nx1 H' → ∃ k', k' < k ∧ W1 (j + 1) k' H') ∧ ∀ x H', J1.yld j H x H' → g1 x (wipe σ2 vs1) H' fun σ3 H5 => wipe σ3 vs1 = wipe σ2 vs1 ∧
      te σ3 H5 fun y H7 => ∃ acc, H7 D = some (.lst acc) ∧ acc.length < sizeLine ∧ Nx1 (upd H7 D (.lst (acc ++ [y]))))) ∧
  ∀ H, W n H → ∀ Hw Hi H', NX H Hw → (G [D]).fin n Hw Hi → NX Hi H' → Q (.ref D) H'
theorem lcg_core {pins : List (Addr × Obj)} {s : Shared} {σ : L2.St} {H : Hp} {Q : VK} {k : Nat} {elt iter tg1 iter1 : Expr} {x0 : Str} {xp : Pos} {scope : Scope} {own : List (Str × Nat)} {vs1 : List Nat} {pos pos' : Pos} {t : TGm} {wi1 : TI} {g g1 : TG} {te : TE} {use : Option (Value → Sem Unit)} {Qf : Value → Shared → Prop}
    (hr : Room (k + 1) X.A) (hc : X.calm = true) (hN : X.N.Nodup) (I : Inv X pins σ H s) (hi : PGm X k iter t) (ok : BlkOk X.N X.env.scope scope own) (hv : ∀ i ∈ vs1, i ∈ own.map (·.2))
    (B : ∀ (s : Shared) (H : Hp) (fp : List Addr) (cl : List (Str × Addr)) (C : Addr), PG (blkOf X s H scope fp cl C) (.Name x0 xp) g ∧ PI (blkOf X s H scope fp cl C) tg1 iter1 wi1 ∧ PG (blkOf X s H scope fp cl C) tg1 g1 ∧ PE (blkOf X s H scope fp cl C) elt te)
    (hs : ∀ x, foldedSetIterable iter X.env x = pure x) (hs1 : ∀ env x, foldedSetIterable iter1 env x = pure x)
    (h : tLcG t g wi1 g1 te (own.map (·.2)) vs1 σ H Q)
    (hRR : ∀ D C s' m H', Inv X pins σ H' s' → Q (.ref D) H' → s'.heap.Ns C m → FpOk X pins H' C → compPost (model X.prog X.w) X.A X.xe use Qf (.ref D) C (.ok .next) s') :
    wpAny (model X.prog X.w) X.A (comprehension (.ListComp elt [⟨.Name x0 xp, iter, [], 0⟩, ⟨tg1, iter1, [], 0⟩] scope pos) scope X.env pos' (newList []) false (eval iter X.env) use) Qf X.xe s := by
  refine blk_core (own := own) hN I ok rfl hs (fun itv fp H2 s2 => fp = [] ∧ ∃ G n a gn go gs H0 s0, itv = .ref a ∧ s0.os = s2.os ∧ Made X.prog X.w X.K X.mg X.base k X.stack s0 H0 G n a gn go gs H2 s2 ∧ (∃ vs, go.data = .fields vs) ∧ go.cls = .type "generator" ∧ s2.heap.IsGen a gn ∧
      ∀ D, H2 D = none → ∃ W : Nat → Hp → Prop, W 0 (upd H2 D (.lst [])) ∧
      (∀ i H, i < n → W i H → ∀ x Hw Hi H', NX H Hw → (G [D]).out i Hw x Hi → NX Hi H' → g x (wipe σ (own.map (·.2))) H' fun σ2 H2 => wipe σ2 (own.map (·.2)) = wipe σ (own.map (·.2)) ∧ wi1 σ2 H2 fun J1 H4 => ∃ W1 : Nat → Nat → Hp → Prop, (∃ m, W1 0 m H4) ∧ ∀ j k H, W1 j k H →
        (J1.stop j H ∧ ButM [D] H' H ∧ MOk [D] H ∧ W (i + 1) H) ∨ (J1.go j H ∧ ∃ Nx1 : Hp → Prop, (∀ H', Nx1 H' → ∃ k', k' < k ∧ W1 (j + 1) k' H') ∧ ∀ x H', J1.yld j H x H' → g1 x (wipe σ2 vs1) H' fun σ3 H5 => wipe σ3 vs1 = wipe σ2 vs1 ∧
          te σ3 H5 fun y H7 => ∃ acc, H7 D = some (.lst acc) ∧ acc.length < sizeLine ∧ Nx1 (upd H7 D (.lst (acc ++ [y]))))) ∧
      ∀ H, W n H → ∀ Hw Hi H', NX H Hw → (G [D]).fin n Hw Hi → NX Hi H' → Q (.ref D) H')
    (.lst []) { cls := .type "list", data := .seq ([] : List Value).toArray } ?_ (fun Q' s2 q => wpAny_newObj_type q (by show 0 ≤ sizeLine; decide)) (fun H' h hb => ⟨Nat.zero_le _, [], 0, .nil, Heap.get?_push_size _ rfl⟩) ?_ hRR
  · refine thn (hi.run pins s σ H _ I h) fun v s1 q => ?_
    obtain ⟨G, n, a, gn, go, gs, H1, H0, s0, rfl, I1, os0, m, q⟩ := q
    have ig : s1.heap.IsGen a gn := m.isgen _ (extO_at I1.hok m.obj)
    refine wpAny_pyIter_gen ig ?_
    obtain ⟨o, nm, qn, ho, hcl, hd, _⟩ := id ig
    rw [extO_at I1.hok m.obj] at ho
    cases ho
    exact ⟨[], H1, I1, fun b z => by simp at z, rfl, G, n, a, gn, go, gs, H0, s0, rfl, os0, m, ⟨_, hd⟩, hcl, ig, q⟩
  · intro itv fp H2 s2 s3 s4 cl D C kk hDn hDs ho3 hg hkp hfp I4
    obtain ⟨rfl, G, n, a, gn, go, gs, H0, s0, rfl, os0, m, hgo1, hgo2, ig, q⟩ := kk
    obtain ⟨W, w0, turn, stop⟩ := q D hDn
    obtain ⟨pg, pi1, pg1, pe⟩ := B s3 (upd H2 D (.lst [])) [] cl C
    have os4 : s4.os = s0.os := (I4.os.trans ho3).trans os0.symm
    have z0 : Zz (blkOf X s3 (upd H2 D (.lst [])) scope [] cl C) X.A s0.os a gn go [D] (G [D]) n 0 (upd H2 D (.lst [])) s4 := by
      refine Zz.begin (X := blkOf X s3 (upd H2 D (.lst [])) scope [] cl C) m hgo1 hgo2 hr.in1 I.ok.frames hg (fun b o e => by rw [upd_ne (ne_of_none e hDn)]; exact e) fun b hb o e => ?_
      rw [List.mem_singleton.mp hb, hDn] at e
      cases e
    have hd : X.A.depth < recursionLimit := by have := hr.dp; omega
    have ig4 : s4.heap.IsGen a gn := ig.keeps hkp
    have loop : codeAny (model X.prog X.w) X.A (.compLoop (.ListComp elt [⟨.Name x0 xp, iter, [], 0⟩, ⟨tg1, iter1, [], 0⟩] scope pos) 0 (.ref a) (.ref D) (compEnvC scope cl C X.env))
        (fun r s' => ∃ f, r = .ok f ∧ ∃ σ' H', Inv (blkOf X s3 (upd H2 D (.lst [])) scope [] cl C) [] σ' H' s' ∧ Q (.ref D) H') s4 := by
      refine codeAny_loop rfl (fun r s' => ∃ i H', r + i = n ∧ Inv (blkOf X s3 (upd H2 D (.lst [])) scope [] cl C) [] (wipe σ (own.map (·.2))) H' s' ∧ Zz (blkOf X s3 (upd H2 D (.lst [])) scope [] cl C) X.A s0.os a gn go [D] (G [D]) n i H' s' ∧ MOk [D] H' ∧ W i H') ?_ n
        ⟨0, _, by omega, I4, z0, fun b hb => by rw [List.mem_singleton.mp hb]; exact ⟨.lst [], own_lst, upd_same⟩, w0⟩
      rintro r s5 ⟨i, H5, hri, I5, z5, m5, w5⟩
      have os5 : s5.os = s0.os := I5.os.trans (I4.os.symm.trans os4)
      show wpAny _ X.A ((compTurn (.ListComp elt [⟨.Name x0 xp, iter, [], 0⟩, ⟨tg1, iter1, [], 0⟩] scope pos) 0 (.ref a) (.ref D) (compEnvC scope cl C X.env)).onRaise (fun x => do noteFrame x (compEnvC scope cl C X.env); theTreesLotGoes x)) _ _ s5
      refine wpAny_noted ?_
      rw [compTurn2_out]
      refine wpAny_bind (wpAny_standAt (wpAny_bind ?_))
      by_cases hin : i < n
      · refine next_of_special (gen_item (X := blkOf X s3 (upd H2 D (.lst [])) scope [] cl C) hr.hd I5.ok.frames hd I5 os5 z5 m5 hin fun v s6 y H6 Hw Hi rv I6 z6 n1 ho n2 ha6 => ⟨by simp, ?_⟩)
        refine wpAny_bind (go_of (extO_at I6.hok ha6) hgo2 hgo1.choose_spec (by decide) ?_)
        have step := turn i H5 hin w5 y Hw Hi H6 n1 ho n2
        refine wpAny_mono (wpAny_asleep (Q := fun fin s' => fin = .again (.compLoop (.ListComp elt [⟨.Name x0 xp, iter, [], 0⟩, ⟨tg1, iter1, [], 0⟩] scope pos) 0 (.ref a) (.ref D) (compEnvC scope cl C X.env)) ∧
          ∃ H', Inv (blkOf X s3 (upd H2 D (.lst [])) scope [] cl C) [] (wipe σ (own.map (·.2))) H' s' ∧ ButM [D] H6 H' ∧ MOk [D] H' ∧ W (i + 1) H') (E := fun _ _ => False) ?_) (fun fin s' q => ?_) fun _ _ q => ?_
        · have I6s := Inv.regen I6 (bare_stoned I6.bare)
          refine wpAny_bind (wpAny_mono (pg.run _ _ _ H6 y v _ I6s rv step) (fun _ s8 q => ?_) fun _ _ z => z)
          obtain ⟨σ8, H8, I8, hw8, q8⟩ := q
          refine wpAny_bind (wpAny_tests_nil ?_)
          rw [if_pos rfl]
          refine wpAny_bind (wpAny_mono (pi1.run _ s8 σ8 H8 _ I8 q8) (fun xv s10 hx => ?_) fun _ _ z => z)
          refine wpAny_bind (wpAny_standAt (wpAny_bind (wpAny_of_eq (hs1 _ _) (wpAny_bind (wpAny_holding (wpAny_mono hx (fun itv s11 h11 => ?_) fun _ _ z => z))))))
          obtain ⟨it1, fp1, tn1, J1, H11, e1, I11, T1, st11, f11, W1, ⟨m1, w1⟩, turn1⟩ := h11
          subst e1
          refine wpAny_bind (wpAny_runOwn ?_)
          rw [Around.mark_none]
          have loop1 : codeAny (model X.prog X.w) X.A (.compLoop (.ListComp elt [⟨.Name x0 xp, iter, [], 0⟩, ⟨tg1, iter1, [], 0⟩] scope pos) 1 (.ref it1) (.ref D) (compEnvC scope cl C X.env))
              (fun r s' => ∃ f, r = .ok f ∧ ∃ H', Inv (blkOf X s3 (upd H2 D (.lst [])) scope [] cl C) [] (wipe σ (own.map (·.2))) H' s' ∧ ButM [D] H6 H' ∧ MOk [D] H' ∧ W (i + 1) H') s11 := by
            refine compLoop2_in (fun k s' => ∃ j H', Inv (blkOf X s3 (upd H2 D (.lst [])) scope [] cl C) [] (wipe σ8 vs1) H' s' ∧ tn1 j s'.heap ∧ (∀ b ∈ fp1, H' b = none) ∧ W1 j k H') ?_ m1
              ⟨0, H11, I11.weak (wipe_length _ _) (fun j v e => (wipe_some e).1), st11, fun b hb => (f11 b hb).1, w1⟩
            rintro k s12 ⟨j, H12, I12, st12, n12, w12⟩
            have stat1 : ∀ {H' : Hp}, (∀ b ∈ fp1, H' b = none) → ∀ b ∈ fp1, FpOk (blkOf X s3 (upd H2 D (.lst [])) scope [] cl C) [] H' b := fun hn b hb => ⟨hn b hb, (f11 b hb).2⟩
            rcases turn1 j k H12 w12 with ⟨stop1, b1, mm1, ww1⟩ | ⟨go1, Nx1, hNx1, step1⟩
            · refine thnF (T1.done (blkOf X s3 (upd H2 D (.lst [])) scope [] cl C) rfl rfl rfl hc j _ s12 (wipe σ8 vs1) H12 (fun _ _ => False) I12 (stat1 n12) st12 stop1) fun r s13 q => ?_
              obtain ⟨rfl, I13⟩ := q
              refine ⟨.next, rfl, H12, I13.weak ?_ (fun j v e => ?_), b1, mm1, ww1⟩
              · rw [wipe_length σ8, ← hw8, wipe_length]
              · rw [← hw8] at e
                obtain ⟨q1, q2⟩ := wipe_some e
                rw [wipe_out fun z => q2 (hv j z)]
                exact q1
            · refine thnF (T1.item (blkOf X s3 (upd H2 D (.lst [])) scope [] cl C) rfl rfl rfl hc j _ s12 (wipe σ8 vs1) H12 (fun _ _ => False) I12 (stat1 n12) st12 go1) fun r s13 q => ?_
              obtain ⟨u1, rfl, q⟩ := q
              refine thnF q fun _ s14 q => ?_
              obtain ⟨x1, H14, I14, r14, y14, st14, n14⟩ := q
              have I14p := I14.pinned (stat1 n14) (T1.obj _ _ st14)
              refine thnF (pg1.run _ s14 (wipe σ8 vs1) H14 x1 u1 _ I14p r14 (step1 x1 H14 y14)) fun _ s15 q => ?_
              obtain ⟨σ15, H15, I15, hw15, q15⟩ := q
              refine wpAny_tests_nil ?_
              rw [if_pos rfl]
              refine thnF (pe.run _ s15 σ15 H15 _ I15 q15) fun z s17 q => ?_
              obtain ⟨yv, H17, I17, r17, acc, hD17, hz17, nx⟩ := q
              refine app_ok (X := blkOf X s3 (upd H2 D (.lst [])) scope [] cl C) I17 hD17 hz17 r17 fun s18 I18 => ?_
              obtain ⟨m', hm, w'⟩ := hNx1 _ nx
              have pin' : ∀ b ∈ fp1, ∀ o, s14.heap.get? b = some o → s18.heap.get? b = some o ∧ (upd H17 D (.lst (acc ++ [yv]))) b = none := by
                intro b hb o e
                have z := I18.pin (b, o) (List.mem_append_right _ (List.mem_append_right _ (mem_pinsAt hb e)))
                exact ⟨z.1, z.2.1⟩
              refine ⟨m', hm, j + 1, _, I18.unpinned.weak (by rw [← hw15, wipe_length]) ?_, T1.keep _ _ _ st14 fun b hb o e => (pin' b hb o e).1, ?_, w'⟩
              · intro j v e
                rw [← hw15] at e
                exact (wipe_some e).1
              · intro b hb
                obtain ⟨o, e, _⟩ := T1.obj _ _ st14 b hb
                exact (pin' b hb o e).2
          refine codeAny_mono (compStart1_ok loop1 (T1.self X.A 0 _ _ _ st11 loop1)) fun rr s' hrr => ?_
          obtain ⟨f, rfl, H', I', b', m', w'⟩ := hrr
          exact wpAny_pure ⟨rfl, H', I', b', m', w'⟩
        · obtain ⟨G7, tw, dr, rfl, H7, I7, b7, m7, w7⟩ := q
          exact ⟨rfl, r - 1, by omega, i + 1, H7, by omega, Inv.back I7 (tw.bare I7.bare), z6.next (Nat.succ_ne_zero i) b7 dr, m7, w7⟩
        · obtain ⟨_, _, _, q⟩ := q
          exact False.elim q
      · have e : i = n := by omega
        subst e
        refine next_of_special (gen_done (X := blkOf X s3 (upd H2 D (.lst [])) scope [] cl C) hr.hd I5.ok.frames hd I5 os5 z5 m5 fun e s6 H6 Hw Hi st I6 n1 hf n2 => ⟨st, ?_⟩)
        exact wpAny_pure ⟨.next, rfl, _, H6, I6, stop H5 w5 Hw Hi H6 n1 hf n2⟩
    exact codeAny_compStart_list loop (wpAny_pyIter_gen ig4 loop)
theorem pe_lcG {k : Nat} {elt iter tg1 iter1 : Expr} {x0 : Str} {xp : Pos} {scope : Scope} {own : List (Str × Nat)} {vs1 : List Nat} {pos : Pos} {t : TGm} {wi1 : TI} {g g1 : TG} {te : TE}
    (hr : Room (k + 1) X.A) (hc : X.calm = true) (hN : X.N.Nodup) (hi : PGm X k iter t) (ok : BlkOk X.N X.env.scope scope own) (hv : ∀ i ∈ vs1, i ∈ own.map (·.2))
    (B : ∀ (s : Shared) (H : Hp) (fp : List Addr) (cl : List (Str × Addr)) (C : Addr), PG (blkOf X s H scope fp cl C) (.Name x0 xp) g ∧ PI (blkOf X s H scope fp cl C) tg1 iter1 wi1 ∧ PG (blkOf X s H scope fp cl C) tg1 g1 ∧ PE (blkOf X s H scope fp cl C) elt te)
    (hs : ∀ x, foldedSetIterable iter X.env x = pure x := by intro _; rfl) (hs1 : ∀ env x, foldedSetIterable iter1 env x = pure x := by intro _ _; rfl) :
    PE X (.ListComp elt [⟨.Name x0 xp, iter, [], 0⟩, ⟨tg1, iter1, [], 0⟩] scope pos) (tLcG t g wi1 g1 te (own.map (·.2)) vs1) := by
  refine ⟨fun pins s σ H Q I h => ?_⟩
  rw [eval_ListComp]
  exact lcg_core hr hc hN I hi ok hv B hs hs1 h fun D C s' m H' I' q hn f => blk_val I' q hn f
/-- name = {k: v for ..}, the name a local -/
theorem ps_setDcT {i : Nat} {y : Str} {py : Pos} {kx vx tg iter : Expr} {ifs : List Expr} {scope : Scope} {own : List (Str × Nat)} {pos spos : Pos} {wi : TI} {g : TG} {tt : TT} {tk tv : TE} (hu : X.A.units + 1 < cLine) (hc : X.calm = true) (hN : X.N.Nodup) (hy : X.N[i]? = some y) (hyl : X.env.scope.names.lookup y = some .local)
    (hsw : swapsWith (.DictComp kx vx [⟨tg, iter, ifs, 0⟩] scope pos) (some (.Name y py)) spos.line X.env = pure true) (hi : PI X tg iter wi) (ok : BlkOk X.N X.env.scope scope own)
    (B : ∀ (s : Shared) (H : Hp) (fp : List Addr) (cl : List (Str × Addr)) (C : Addr), PG (blkOf X s H scope fp cl C) tg g ∧ PTs (blkOf X s H scope fp cl C) ifs tt ∧ PE (blkOf X s H scope fp cl C) kx tk ∧ PE (blkOf X s H scope fp cl C) vx tv) (hs : ∀ x, foldedSetIterable iter X.env x = pure x := by intro _; rfl) :
    PS X (.Assign [.Name y py] (.DictComp kx vx [⟨tg, iter, ifs, 0⟩] scope pos) spos) (tAsg (tDcT wi g tt tk tv (own.map (·.2))) (gName i)) := by
  refine ⟨fun pins s σ H D I h => ?_⟩
  rw [exec_Assign_Name_used _ _ _ _ hsw]
  refine wpAny_bind (wpAny_standAt (wpAny_bind ?_))
  show wpAny _ X.A (do let _ ← comprehension (.DictComp kx vx [⟨tg, iter, ifs, 0⟩] scope pos) scope X.env (firstIterPos [⟨tg, iter, ifs, 0⟩] pos) newDict false (eval iter X.env) (some (assign (.Name y py) X.env))) _ _ s
  have h : tDcT wi g tt tk tv (own.map (·.2)) σ H (fun x H1 => gName i x σ H1 D.nx) := h
  refine wpAny_bind (thn (dcT_core (Qf := fun _ s' => SP X pins D .next s') hu hc hN I hi ok B hs h fun L C s' m H' I' q hn f => blk_set hN hy hyl I' q hn f) fun _ s' hq => wpAny_pure (wpAny_pure hq))
theorem sw_trueD {kx vx : Expr} {gs : List Comprehension} {scope : Scope} {pos py : Pos} {y : Str} {l : Nat} {env : Env} (hk : env.scope.kind = .function) (hy : env.scope.names.lookup y = some .local) (hl : (py.line == pos.line) = true)
    (ha : (scope.names.any fun (n, k) => n == y && (k == .local || k == .cell)) = false) : swapsWith (.DictComp kx vx gs scope pos) (some (.Name y py)) l env = pure true := by
  have ky : env.kindOf y = some .local := hy
  have hb : env.blockKind = .function := by unfold Env.blockKind; rw [hk]; rfl
  unfold swapsWith
  simp only [hb, ky, ha, Expr.pos, hl]
  rfl
end
end Hd
set_option maxHeartbeats 2000000
/-! What can come to be, front by front: mathematics. -/
namespace Hd
abbrev Stn := List Int
abbrev Org := Option (Stn × (Nat × Nat))
section
variable {κ β : Type} [DecidableEq κ]
/-- a dict as a list in the order of its keys' coming: k's value set -/
def putA (l : List (κ × β)) (k : κ) (v : β) : List (κ × β) := if (l.any fun q => decide (q.1 = k)) = true then l.map (fun q => if q.1 = k then (q.1, v) else q) else l ++ [(k, v)]
def lookA (l : List (κ × β)) (k : κ) : Option β := (l.find? fun q => decide (q.1 = k)).map (·.2)
theorem any_key {l : List (κ × β)} {k : κ} : (l.any fun q => decide (q.1 = k)) = true ↔ k ∈ l.map (·.1) := by
  rw [List.any_eq_true]
  constructor
  · rintro ⟨q, hq, e⟩
    exact List.mem_map.mpr ⟨q, hq, of_decide_eq_true e⟩
  · intro h
    obtain ⟨q, hq, e⟩ := List.mem_map.mp h
    exact ⟨q, hq, decide_eq_true e⟩
theorem keys_map (l : List (κ × β)) (k : κ) (v : β) : (l.map fun q => if q.1 = k then (q.1, v) else q).map (·.1) = l.map (·.1) := by
  rw [List.map_map]
  refine List.map_congr_left fun q _ => ?_
  show (if q.1 = k then (q.1, v) else q).1 = q.1
  split <;> rfl
theorem keys_put (l : List (κ × β)) (k : κ) (v : β) : (putA l k v).map (·.1) = if k ∈ l.map (·.1) then l.map (·.1) else l.map (·.1) ++ [k] := by
  unfold putA
  by_cases h : (l.any fun q => decide (q.1 = k)) = true
  · rw [if_pos h, if_pos (any_key.mp h), keys_map]
  · rw [if_neg h, if_neg (fun z => h (any_key.mpr z)), List.map_append]
    rfl
theorem nodup_put {l : List (κ × β)} (k : κ) (v : β) (h : (l.map (·.1)).Nodup) : ((putA l k v).map (·.1)).Nodup := by
  rw [keys_put]
  split
  · exact h
  · rename_i hk
    rw [List.nodup_append]
    refine ⟨h, by simp, fun a ha b hb => ?_⟩
    have e : b = k := by simpa using hb
    subst e
    exact fun z => hk (z ▸ ha)
theorem mem_put {l : List (κ × β)} {k x : κ} {v : β} : x ∈ (putA l k v).map (·.1) ↔ x ∈ l.map (·.1) ∨ x = k := by
  rw [keys_put]
  split
  · rename_i hk
    constructor
    · exact .inl
    · rintro (h | rfl)
      · exact h
      · exact hk
  · simp
theorem put_new {l : List (κ × β)} {k : κ} {v : β} (h : k ∉ l.map (·.1)) : putA l k v = l ++ [(k, v)] := by
  unfold putA
  rw [if_neg fun z => h (any_key.mp z)]
theorem lookA_none {l : List (κ × β)} {k : κ} : lookA l k = none ↔ k ∉ l.map (·.1) := by
  unfold lookA
  rw [Option.map_eq_none_iff, List.find?_eq_none]
  constructor
  · intro h z
    obtain ⟨q, hq, e⟩ := List.mem_map.mp z
    exact h q hq (decide_eq_true e)
  · intro h q hq e
    exact h (List.mem_map.mpr ⟨q, hq, of_decide_eq_true e⟩)
theorem lookA_at : ∀ {l : List (κ × β)}, (l.map (·.1)).Nodup → ∀ {k : κ} {v : β}, (k, v) ∈ l → lookA l k = some v
  | q :: l, nd, k, v, h => by
    rw [List.map_cons, List.nodup_cons] at nd
    unfold lookA
    rw [List.find?_cons]
    rcases List.mem_cons.mp h with e | h
    · subst e
      simp
    · have ne : ¬ q.1 = k := fun z => nd.1 (List.mem_map.mpr ⟨(k, v), h, z.symm⟩)
      rw [decide_eq_false ne]
      exact lookA_at nd.2 h
theorem lookA_mem {l : List (κ × β)} {k : κ} {v : β} (h : lookA l k = some v) : (k, v) ∈ l := by
  unfold lookA at h
  obtain ⟨q, hq, rfl⟩ := Option.map_eq_some_iff.mp h
  have z := List.find?_some (p := fun q : κ × β => decide (q.1 = k)) hq
  have e : q.1 = k := of_decide_eq_true z
  subst e
  exact List.mem_of_find?_eq_some hq
theorem lookA_put {l : List (κ × β)} {k x : κ} {v : β} : lookA (putA l k v) x = if x = k then some v else lookA l x := by
  unfold putA
  by_cases h : (l.any fun q => decide (q.1 = k)) = true
  · rw [if_pos h]
    have main : ∀ l : List (κ × β), lookA (l.map fun q => if q.1 = k then (q.1, v) else q) x = if x = k ∧ x ∈ l.map (·.1) then some v else lookA l x := by
      intro l
      induction l with
      | nil => simp [lookA]
      | cons q l ih =>
        unfold lookA at ih ⊢
        rw [List.map_cons, List.find?_cons, List.find?_cons, List.map_cons]
        by_cases hq : q.1 = k
        · rw [if_pos hq]
          by_cases hx : q.1 = x
          · simp only [decide_eq_true hx]
            rw [if_pos ⟨hx.symm.trans hq, by rw [hx]; exact List.mem_cons_self⟩]
            rfl
          · simp only [decide_eq_false hx]
            rw [ih]
            have n : ¬ x = k := fun z => hx (hq.trans z.symm)
            rw [if_neg fun z => n z.1, if_neg fun z => n z.1]
        · rw [if_neg hq]
          by_cases hx : q.1 = x
          · simp only [decide_eq_true hx]
            have n : ¬ x = k := fun z => hq (hx.trans z)
            rw [if_neg fun z => n z.1]
          · simp only [decide_eq_false hx]
            rw [ih]
            have n : ¬ x = q.1 := fun z => hx z.symm
            simp only [List.mem_cons, n, false_or]
    rw [main]
    by_cases e : x = k
    · rw [if_pos ⟨e, by rw [e]; exact any_key.mp h⟩, if_pos e]
    · rw [if_neg (fun z => e z.1), if_neg e]
  · rw [if_neg h]
    have hk : k ∉ l.map (·.1) := fun z => h (any_key.mpr z)
    unfold lookA
    rw [List.find?_append]
    by_cases e : x = k
    · subst e
      rw [if_pos rfl]
      have : l.find? (fun q => decide (q.1 = x)) = none := by
        have z := lookA_none.mpr hk
        unfold lookA at z
        exact Option.map_eq_none_iff.mp z
      rw [this]
      simp
    · rw [if_neg e]
      have : ¬ k = x := fun z => e z.symm
      cases q : l.find? (fun q => decide (q.1 = x)) with
      | none => simp [this]
      | some u => simp
theorem nodup_le [DecidableEq κ] : ∀ {l m : List κ}, l.Nodup → (∀ x ∈ l, x ∈ m) → l.length ≤ m.length
  | [], m, _, _ => Nat.zero_le _
  | a :: l, m, nd, h => by
    rw [List.nodup_cons] at nd
    have ha := h a List.mem_cons_self
    have z := nodup_le (m := m.erase a) nd.2 fun x hx => by
      have hne : x ≠ a := fun e => nd.1 (e ▸ hx)
      exact (List.mem_erase_of_ne hne).mpr (h x (List.mem_cons_of_mem _ hx))
    have e := List.length_erase_of_mem ha
    have pos : 0 < m.length := List.length_pos_of_mem ha
    rw [List.length_cons]
    omega
end
/-- the standings a step behind, in the order of the steps -/
def nxS (ns : Stn) : List Stn := (due ns).map fun p => mv ns p.1 p.2
/-- what is a step behind some of the front, by which -/
def orgn (es : List Stn) : List (Stn × Org) := (es.flatMap fun e => (due e).map fun p => (mv e p.1 p.2, some (e, p))).foldl (fun acc q => putA acc q.1 q.2) []
/-- what is found ahead of turn i, and the front of turn i -/
def stA (ns : Stn) : Nat → List Stn × List (Stn × Org)
  | 0 => ([ns], [(ns, none)])
  | i + 1 => ((stA ns i).1 ++ ((orgn ((stA ns i).2.map (·.1))).filter fun q => decide (q.1 ∉ (stA ns i).1)).map (·.1), (orgn ((stA ns i).2.map (·.1))).filter fun q => decide (q.1 ∉ (stA ns i).1))
def fnd (ns : Stn) (i : Nat) : List Stn := (stA ns i).1
def frn (ns : Stn) (i : Nat) : List (Stn × Org) := (stA ns i).2
theorem frn_succ (ns : Stn) (i : Nat) : frn ns (i + 1) = (orgn ((frn ns i).map (·.1))).filter fun q => decide (q.1 ∉ fnd ns i) := rfl
theorem fnd_succ (ns : Stn) (i : Nat) : fnd ns (i + 1) = fnd ns i ++ (frn ns (i + 1)).map (·.1) := rfl
theorem fold_keys {β : Type} : ∀ (qs : List (Stn × β)) (acc : List (Stn × β)), (acc.map (·.1)).Nodup → ((qs.foldl (fun acc q => putA acc q.1 q.2) acc).map (·.1)).Nodup ∧ ∀ x, x ∈ (qs.foldl (fun acc q => putA acc q.1 q.2) acc).map (·.1) ↔ x ∈ acc.map (·.1) ∨ x ∈ qs.map (·.1)
  | [], acc, h => ⟨h, fun x => by simp⟩
  | q :: qs, acc, h => by
    obtain ⟨a, b⟩ := fold_keys qs (putA acc q.1 q.2) (nodup_put _ _ h)
    refine ⟨a, fun x => ?_⟩
    rw [List.foldl_cons, b, mem_put, List.map_cons, List.mem_cons, or_assoc]
theorem orgn_nodup (es : List Stn) : ((orgn es).map (·.1)).Nodup := (fold_keys _ [] (by simp)).1
theorem mem_orgn {es : List Stn} {x : Stn} : x ∈ (orgn es).map (·.1) ↔ ∃ e ∈ es, x ∈ nxS e := by
  unfold orgn
  rw [(fold_keys _ [] (by simp)).2]
  simp only [List.map_nil, List.not_mem_nil, false_or]
  rw [List.map_flatMap, List.mem_flatMap]
  constructor
  · rintro ⟨e, he, hx⟩
    refine ⟨e, he, ?_⟩
    rw [List.map_map] at hx
    exact hx
  · rintro ⟨e, he, hx⟩
    refine ⟨e, he, ?_⟩
    rw [List.map_map]
    exact hx
theorem nodup_filter_map {α γ : Type} (f : α → γ) (p : α → Bool) : ∀ {l : List α}, (l.map f).Nodup → ((l.filter p).map f).Nodup
  | [], _ => by simp
  | a :: l, h => by
    rw [List.map_cons, List.nodup_cons] at h
    rw [List.filter_cons]
    split
    · rw [List.map_cons, List.nodup_cons]
      refine ⟨fun z => h.1 ?_, nodup_filter_map f p h.2⟩
      obtain ⟨q, hq, e⟩ := List.mem_map.mp z
      exact List.mem_map.mpr ⟨q, (List.mem_filter.mp hq).1, e⟩
    · exact nodup_filter_map f p h.2
theorem frn_nodup (ns : Stn) : ∀ i, ((frn ns i).map (·.1)).Nodup
  | 0 => by simp [frn, stA]
  | i + 1 => nodup_filter_map _ _ (orgn_nodup _)
theorem frn_new (ns : Stn) (i : Nat) : ∀ x ∈ (frn ns (i + 1)).map (·.1), x ∉ fnd ns i := fun x hx => by
  obtain ⟨q, hq, rfl⟩ := List.mem_map.mp hx
  exact of_decide_eq_true (List.mem_filter.mp hq).2
theorem fnd_nodup (ns : Stn) : ∀ i, (fnd ns i).Nodup
  | 0 => by simp [fnd, stA]
  | i + 1 => by
    rw [fnd_succ, List.nodup_append]
    exact ⟨fnd_nodup ns i, frn_nodup ns (i + 1), fun a ha b hb z => frn_new ns i b hb (z ▸ ha)⟩
theorem mem_frn {ns : Stn} {i : Nat} {x : Stn} : x ∈ (frn ns (i + 1)).map (·.1) ↔ (∃ e ∈ (frn ns i).map (·.1), x ∈ nxS e) ∧ x ∉ fnd ns i := by
  constructor
  · intro h
    refine ⟨?_, frn_new ns i x h⟩
    obtain ⟨q, hq, rfl⟩ := List.mem_map.mp h
    exact mem_orgn.mp (List.mem_map.mpr ⟨q, (List.mem_filter.mp hq).1, rfl⟩)
  · rintro ⟨h, hn⟩
    obtain ⟨q, hq, rfl⟩ := List.mem_map.mp (mem_orgn.mpr h)
    exact List.mem_map.mpr ⟨q, List.mem_filter.mpr ⟨hq, decide_eq_true hn⟩, rfl⟩
/-- of so many heaps, with that sum -/
def Bx (L : Nat) (S : Int) (x : Stn) : Prop := x.length = L ∧ NN x ∧ x.sum = S
theorem Bx.next {L : Nat} {S : Int} {x y : Stn} (h : Bx L S x) (hy : y ∈ nxS x) : Bx L S y := by
  obtain ⟨p, hp, rfl⟩ := List.mem_map.mp hy
  obtain ⟨a1, a2, a3, a4⟩ := mem_due.mp hp
  obtain ⟨b1, b2, b3⟩ := h
  exact ⟨(len_mv _ _ _).trans b1, b2.mv a1 a2 a3 a4, (sum_mv a1 a2 a3).trans b3⟩
theorem frn_bx {L : Nat} {S : Int} {ns : Stn} (h : Bx L S ns) : ∀ i, ∀ x ∈ (frn ns i).map (·.1), Bx L S x
  | 0, x, hx => by
    have e : x = ns := by simpa [frn, stA] using hx
    rw [e]; exact h
  | i + 1, x, hx => by
    obtain ⟨⟨e, he, hn⟩, _⟩ := mem_frn.mp hx
    exact (frn_bx h i e he).next hn
theorem fnd_bx {L : Nat} {S : Int} {ns : Stn} (h : Bx L S ns) : ∀ i, ∀ x ∈ fnd ns i, Bx L S x
  | 0, x, hx => by
    have e : x = ns := by simpa [fnd, stA] using hx
    rw [e]; exact h
  | i + 1, x, hx => by
    rw [fnd_succ] at hx
    rcases List.mem_append.mp hx with hx | hx
    · exact fnd_bx h i x hx
    · exact frn_bx h (i + 1) x hx
/-- all lists of so many numbers from 0 to S -/
def bx (S : Nat) : Nat → List Stn
  | 0 => [[]]
  | L + 1 => (List.range (S + 1)).flatMap fun k : Nat => (bx S L).map fun r => Int.ofNat k :: r
theorem len_bx (S : Nat) : ∀ L, (bx S L).length = (S + 1) ^ L
  | 0 => rfl
  | L + 1 => by
    have h : ∀ l : List Nat, (l.flatMap fun k : Nat => (bx S L).map fun r => Int.ofNat k :: r).length = l.length * (bx S L).length := by
      intro l
      induction l with
      | nil => simp
      | cons a l ih => rw [List.flatMap_cons, List.length_append, ih, List.length_map, List.length_cons, Nat.succ_mul, Nat.add_comm]
    rw [show bx S (L + 1) = (List.range (S + 1)).flatMap fun k : Nat => (bx S L).map fun r => Int.ofNat k :: r from rfl, h, len_bx S L, List.length_range, Nat.pow_succ, Nat.mul_comm]
theorem mem_bx {S : Nat} : ∀ {x : Stn}, (∀ k ∈ x, 0 ≤ k ∧ k ≤ (S : Int)) → x ∈ bx S x.length
  | [], _ => by simp [bx]
  | a :: x, h => by
    obtain ⟨h1, h2⟩ := h a List.mem_cons_self
    refine List.mem_flatMap.mpr ⟨a.toNat, List.mem_range.mpr (by omega), List.mem_map.mpr ⟨x, mem_bx fun k hk => h k (List.mem_cons_of_mem _ hk), ?_⟩⟩
    rw [show Int.ofNat a.toNat = ((a.toNat : Nat) : Int) from rfl, Int.toNat_of_nonneg h1]
theorem nn_le {x : Stn} (h : NN x) : ∀ k ∈ x, 0 ≤ k ∧ k ≤ x.sum := fun k hk => by
  refine ⟨h.mem k hk, ?_⟩
  obtain ⟨i, hi, e⟩ := List.mem_iff_getElem.mp hk
  have z := sum_one (i := i) h
  rw [List.getD_eq_getElem?_getD, List.getElem?_eq_getElem hi, e] at z
  exact z
theorem few_of {L : Nat} {S : Nat} {l : List Stn} (nd : l.Nodup) (h : ∀ x ∈ l, Bx L (S : Int) x) : l.length ≤ (S + 1) ^ L := by
  rw [← len_bx S L]
  refine nodup_le nd fun x hx => ?_
  obtain ⟨h1, h2, h3⟩ := h x hx
  rw [← h1]
  exact mem_bx fun k hk => by rw [← h3]; exact nn_le h2 k hk
theorem frn_stop {ns : Stn} {i : Nat} (h : frn ns i = []) : frn ns (i + 1) = [] := by
  rw [frn_succ, h]
  rfl
theorem frn_over {ns : Stn} {i : Nat} (h : frn ns i = []) : ∀ j, i ≤ j → frn ns j = [] := fun j hj => by
  obtain ⟨d, rfl⟩ := Nat.exists_eq_add_of_le hj
  induction d with
  | zero => exact h
  | succ d ih => exact frn_stop (ih (Nat.le_add_right _ _))
/-- how many fronts there are -/
structure Frs (ns : Stn) (n : Nat) : Prop where
  last : frn ns n = []
  more : ∀ i, i < n → frn ns i ≠ []
theorem fnd_grows {ns : Stn} : ∀ i, (∀ j, j ≤ i → frn ns j ≠ []) → i + 1 ≤ (fnd ns i).length
  | 0, _ => by simp [fnd, stA]
  | i + 1, h => by
    have z := fnd_grows i fun j hj => h j (by omega)
    rw [fnd_succ, List.length_append, List.length_map]
    have e : 0 < (frn ns (i + 1)).length := List.length_pos_iff.mpr (h (i + 1) (Nat.le_refl _))
    omega
theorem least {p : Nat → Prop} : ∀ (b : Nat), p b → ∃ n, n ≤ b ∧ p n ∧ ∀ i, i < n → ¬ p i := fun b hb => by
  induction b using Nat.strongRecOn with
  | ind b ih =>
    by_cases h : ∃ i, i < b ∧ p i
    · obtain ⟨i, hi, hp⟩ := h
      obtain ⟨n, h1, h2, h3⟩ := ih i hi hp
      exact ⟨n, by omega, h2, h3⟩
    · exact ⟨b, Nat.le_refl _, hb, fun i hi hp => h ⟨i, hi, hp⟩⟩
theorem frs_is {L S : Nat} {ns : Stn} (h : Bx L (S : Int) ns) : ∃ n, n ≤ (S + 1) ^ L ∧ Frs ns n := by
  have hb : ∃ i, i ≤ (S + 1) ^ L ∧ frn ns i = [] := by
    by_cases z : ∃ i, i ≤ (S + 1) ^ L ∧ frn ns i = []
    · exact z
    · exfalso
      have q := fnd_grows ((S + 1) ^ L) fun j hj e => z ⟨j, hj, e⟩
      have r := few_of (fnd_nodup ns ((S + 1) ^ L)) (fnd_bx h _)
      omega
  obtain ⟨i, hi, he⟩ := hb
  obtain ⟨n, h1, h2, h3⟩ := least (p := fun i => frn ns i = []) i he
  exact ⟨n, by omega, h2, h3⟩
theorem Frs.one {ns : Stn} {n m : Nat} (a : Frs ns n) (b : Frs ns m) : n = m := by
  rcases Nat.lt_trichotomy n m with h | h | h
  · exact absurd a.last (b.more n h)
  · exact h
  · exact absurd b.last (a.more m h)
theorem Frs.pos {ns : Stn} {n : Nat} (h : Frs ns n) : 0 < n := by
  rcases Nat.eq_zero_or_pos n with e | e
  · have q := h.last
    rw [e] at q
    simp [frn, stA] at q
  · exact e
end Hd
set_option maxHeartbeats 2000000
/-! A dict with keys that are tuples of ints, and the list that tells it. -/
namespace Hd
open PySem PySem.Spec PyProof.Rows L2
def kI (ns : Stn) : List L2.Key := ns.map Sum.inl
theorem kI_inj {a b : Stn} (h : kI a = kI b) : a = b := by
  unfold kI at h
  induction a generalizing b with
  | nil =>
    cases b with
    | nil => rfl
    | cons y b => simp at h
  | cons x a ih =>
    cases b with
    | nil => simp at h
    | cons y b =>
      simp only [List.map_cons, List.cons.injEq, Sum.inl.injEq] at h
      rw [h.1, ih h.2]
theorem kI_kV (ns : Stn) : (kI ns).map kV = ns.map V.int := by
  unfold kI
  rw [List.map_map]
  exact List.map_congr_left fun _ _ => rfl
/-- the dict told by m, each value as R has it -/
def Dm {β : Type} (R : V → β → Prop) (kvs : List (List L2.Key × V)) (m : List (Stn × β)) : Prop := Paired (fun p q => p.1 = kI q.1 ∧ R p.2 q.2) kvs m
section
variable {β : Type} {R R' : V → β → Prop} {kvs : List (List L2.Key × V)} {m : List (Stn × β)}
theorem Dm.mt : Dm R [] [] := Paired.nil
theorem Dm.len (h : Dm R kvs m) : kvs.length = m.length := Paired.length h
theorem Dm.imp (h : Dm R kvs m) (i : ∀ v b, R v b → R' v b) : Dm R' kvs m := Paired.mapP h fun p q z => ⟨z.1, i _ _ z.2⟩
theorem Dm.snoc {v : V} {k : Stn} {b : β} (h : Dm R kvs m) (r : R v b) : Dm R (kvs ++ [(kI k, v)]) (m ++ [(k, b)]) := by
  induction h with
  | nil => exact .cons ⟨rfl, r⟩ .nil
  | cons z t ih => exact .cons z ih
theorem Dm.val (h : Dm R kvs m) (k : Stn) : (lookA m k = none ∧ valV kvs (kI k) = none) ∨ ∃ b v, lookA m k = some b ∧ valV kvs (kI k) = some v ∧ R v b := by
  induction h with
  | nil => exact .inl ⟨rfl, rfl⟩
  | @cons p q ps qs z t ih =>
    by_cases e : q.1 = k
    · refine .inr ⟨q.2, p.2, ?_, valV_pos (z.1.trans (by rw [e])), z.2⟩
      unfold lookA
      rw [List.find?_cons, decide_eq_true e]
      rfl
    · have e' : ¬ p.1 = kI k := fun y => e (kI_inj (z.1.symm.trans y))
      rw [valV_neg e']
      unfold lookA at ih ⊢
      rw [List.find?_cons, decide_eq_false e]
      exact ih
theorem Dm.off (h : Dm R kvs m) {k : Stn} (hk : k ∉ m.map (·.1)) : valV kvs (kI k) = none := by
  rcases h.val k with z | ⟨b, v, z, _⟩
  · exact z.2
  · have := lookA_none.mpr hk
    rw [this] at z; cases z
theorem Dm.on (h : Dm R kvs m) {k : Stn} (hk : k ∈ m.map (·.1)) : ∃ b v, lookA m k = some b ∧ valV kvs (kI k) = some v ∧ R v b := by
  rcases h.val k with z | z
  · exact absurd hk (lookA_none.mp z.1)
  · exact z
theorem Dm.isSome (h : Dm R kvs m) (k : Stn) : (valV kvs (kI k)).isSome = decide (k ∈ m.map (·.1)) := by
  by_cases hk : k ∈ m.map (·.1)
  · obtain ⟨b, v, _, e, _⟩ := h.on hk
    rw [e, decide_eq_true hk]; rfl
  · rw [h.off hk, decide_eq_false hk]; rfl
theorem Dm.any (h : Dm R kvs m) (k : Stn) : (kvs.any fun kv => decide (kv.1 = kI k)) = (m.any fun q => decide (q.1 = k)) := by
  induction h with
  | nil => rfl
  | @cons p q ps qs z t ih =>
    rw [List.any_cons, List.any_cons, ih]
    have e : decide (p.1 = kI k) = decide (q.1 = k) := by
      by_cases y : q.1 = k
      · rw [decide_eq_true y, decide_eq_true (z.1.trans (by rw [y]))]
      · rw [decide_eq_false y, decide_eq_false fun u => y (kI_inj (z.1.symm.trans u))]
    rw [e]
theorem Dm.repl {v : V} {b : β} (h : Dm R kvs m) (k : Stn) (r : R v b) : Dm R (kvs.map fun kv => if kv.1 = kI k then (kv.1, v) else kv) (m.map fun q => if q.1 = k then (q.1, b) else q) := by
  induction h with
  | nil => exact .nil
  | @cons p q ps qs z t ih =>
    rw [List.map_cons, List.map_cons]
    refine .cons ?_ ih
    by_cases y : q.1 = k
    · rw [if_pos (z.1.trans (by rw [y])), if_pos y]
      exact ⟨z.1, r⟩
    · rw [if_neg fun u => y (kI_inj (z.1.symm.trans u)), if_neg y]
      exact z
theorem Dm.put {v : V} {b : β} (h : Dm R kvs m) (k : Stn) (r : R v b) : Dm R (putK kvs (kI k) v) (putA m k b) := by
  unfold putK putA
  rw [h.any k]
  split
  · exact h.repl k r
  · exact h.snoc r
theorem Dm.get (h : Dm R kvs m) {i : Nat} {k : List L2.Key} {v : V} (e : kvs[i]? = some (k, v)) : ∃ ns b, m[i]? = some (ns, b) ∧ k = kI ns ∧ R v b := by
  obtain ⟨q, hq, z⟩ := paired_get h e
  exact ⟨q.1, q.2, hq, z.1, z.2⟩
theorem Dm.at (h : Dm R kvs m) {i : Nat} {ns : Stn} {b : β} (e : m[i]? = some (ns, b)) : ∃ v, kvs[i]? = some (kI ns, v) ∧ R v b := by
  have hi : i < kvs.length := by
    rw [h.len]
    exact (List.getElem?_eq_some_iff.mp e).1
  obtain ⟨ns', b', e2, e3, e4⟩ := h.get (k := kvs[i].1) (v := kvs[i].2) (List.getElem?_eq_getElem hi)
  rw [e] at e2
  cases e2
  exact ⟨kvs[i].2, by rw [List.getElem?_eq_getElem hi, ← e3], e4⟩
theorem len_putA (l : List (Stn × β)) (k : Stn) (v : β) : (putA l k v).length ≤ l.length + 1 := by
  unfold putA
  split
  · rw [List.length_map]; omega
  · simp
end
/-- an origin: None, or the pair of the standing before and the step -/
def OrgAt (K : PySem.W.Frag) (H : Hp) (v : V) : Org → Prop
  | none => v = .non
  | some (e, p) => ∃ T te ts, v = .ref T ∧ H T = some (.tup [.ref te, .ref ts]) ∧ H te = some (.tup (e.map V.int)) ∧ SqT K H ts [.int (p.1 : Int), .int (p.2 : Int)]
theorem OrgAt.mono {K : PySem.W.Frag} {H H' : Hp} {v : V} {o : Org} (ht : ∀ b xs, H b = some (.tup xs) → H' b = some (.tup xs)) (hs : ∀ b xs, SqT K H b xs → SqT K H' b xs) (h : OrgAt K H v o) : OrgAt K H' v o := by
  cases o with
  | none => exact h
  | some o =>
    obtain ⟨T, te, ts, a, b, c, d⟩ := h
    exact ⟨T, te, ts, a, ht _ _ b, ht _ _ c, hs _ _ d⟩
theorem OrgAt.same {K : PySem.W.Frag} {H H' : Hp} {v : V} {o : Org} (s : Same H H') (h : OrgAt K H v o) : OrgAt K H' v o := h.mono (fun b xs e => s b _ e) fun b xs e => Same.tup s e
/-- one that is no tuple is changed: tuples stay -/
theorem sqt_other {K : PySem.W.Frag} {H : Hp} {l t : Addr} {xs : List V} {o u : HO} (hl : H l = some o) (n : ∀ ys, o ≠ .tup ys) (n2 : ∀ ob w, o ≠ .frz ob w) (h : SqT K H t xs) : SqT K (L2.upd H l u) t xs := by
  rcases h with (h | ⟨ob, h⟩) | h
  · exact .inl (.inl (by rw [upd_ne (ne_of h hl fun z => n _ z.symm)]; exact h))
  · exact .inl (.inr ⟨ob, by rw [upd_ne (ne_of h hl fun z => n2 _ _ z.symm)]; exact h⟩)
  · exact .inr h
theorem OrgAt.upd {K : PySem.W.Frag} {H : Hp} {l : Addr} {o u : HO} {v : V} {og : Org} (hl : H l = some o) (n : ∀ ys, o ≠ .tup ys) (n2 : ∀ ob w, o ≠ .frz ob w) (h : OrgAt K H v og) : OrgAt K (L2.upd H l u) v og :=
  h.mono (fun b xs e => by rw [upd_ne (ne_of e hl fun z => n _ z.symm)]; exact e) fun b xs e => sqt_other hl n n2 e
theorem Dm.keys {β : Type} {R : V → β → Prop} {kvs : List (List L2.Key × V)} {m : List (Stn × β)} (h : Dm R kvs m) : kvs.map (·.1) = (m.map (·.1)).map kI := by
  induction h with
  | nil => rfl
  | cons z t ih => rw [List.map_cons, List.map_cons, List.map_cons, ih, z.1]
/-- a dict comprehension over what is walked -/
theorem dcT_it {J : It} {n : Nat} {G : Hp → Prop} {Y : Nat → Hp → V → Hp → Prop} (w : Walk J n G Y) {g : TG} {tt : TT} {tk tv : TE} {vs : List Nat} {σ : L2.St} {H1 : Hp} {D : Addr} {Qd : Hp → Prop} (Pv : Nat → Hp → Prop) (h0 : Pv 0 (L2.upd H1 D (.dT []))) (hG : ∀ i H, i ≤ n → Pv i H → G H)
    (hs : ∀ i x H H', i < n → Pv i H → Y i H x H' → g x (wipe σ vs) H' fun σ2 H2 => wipe σ2 vs = wipe σ vs ∧ tt σ2 H2 fun b H3 =>
      if b = true then tk σ2 H3 fun y H4 => tv σ2 H4 fun z H5 => ∃ kvs k b, y = .ref b ∧ H5 b = some (.tup (List.map kV k)) ∧ H5 D = some (.dT kvs) ∧ kvs.length < sizeLine ∧ Pv (i + 1) (L2.upd H5 D (.dT (putK kvs k z))) else Pv (i + 1) H3) (hd : ∀ H, Pv n H → Qd H) :
    ∃ W : Nat → Nat → Hp → Prop, (∃ m, W 0 m (L2.upd H1 D (.dT []))) ∧ ∀ i m H, W i m H →
      (J.stop i H ∧ Qd H) ∨ (J.go i H ∧ ∃ Nx : Hp → Prop, (∀ H', Nx H' → ∃ m', m' < m ∧ W (i + 1) m' H') ∧ ∀ x H', J.yld i H x H' → g x (wipe σ vs) H' fun σ2 H2 => wipe σ2 vs = wipe σ vs ∧ tt σ2 H2 fun b H3 =>
        if b = true then tk σ2 H3 fun y H4 => tv σ2 H4 fun z H5 => ∃ kvs k b, y = .ref b ∧ H5 b = some (.tup (List.map kV k)) ∧ H5 D = some (.dT kvs) ∧ kvs.length < sizeLine ∧ Nx (L2.upd H5 D (.dT (putK kvs k z))) else Nx H3) := by
  refine ⟨fun i m H => m + i = n ∧ Pv i H, ⟨n, rfl, h0⟩, ?_⟩
  rintro i m H ⟨e, p⟩
  by_cases hlt : i < n
  · exact .inr ⟨w.goes i H hlt (hG i H (by omega) p), Pv (i + 1), fun H' p' => ⟨m - 1, by omega, by omega, p'⟩, fun x H' y => hs i x H H' hlt p (w.yields i H x H' hlt (hG i H (by omega) p) y)⟩
  · have e2 : i = n := by omega
    subst e2
    exact .inl ⟨w.stops H (hG i H (Nat.le_refl _) p), hd H p⟩
end Hd
set_option maxHeartbeats 8000000
namespace Hd
open PySem PySem.Spec PyProof.Rows L2
/-- all that comes to be from one -/
def addO (acc : List (Stn × Org)) (e : Stn) : List (Stn × Org) := ((due e).map fun p => (mv e p.1 p.2, (some (e, p) : Org))).foldl (fun acc q => putA acc q.1 q.2) acc
def addTo (acc : List (Stn × Org)) (e : Stn) (j : Nat) : List (Stn × Org) := (((due e).take j).map fun p => (mv e p.1 p.2, (some (e, p) : Org))).foldl (fun acc q => putA acc q.1 q.2) acc
theorem orgn_fold (es : List Stn) : orgn es = es.foldl addO [] := by
  unfold orgn
  rw [List.flatMap_def, List.foldl_flatten, List.foldl_map]
  rfl
theorem addTo_succ {acc : List (Stn × Org)} {e : Stn} {j : Nat} {p : Nat × Nat} (h : (due e)[j]? = some p) : addTo acc e (j + 1) = putA (addTo acc e j) (mv e p.1 p.2) (some (e, p)) := by
  unfold addTo
  rw [List.take_add_one, h, List.map_append, List.foldl_append]
  rfl
theorem addTo_all (acc : List (Stn × Org)) (e : Stn) : addTo acc e (due e).length = addO acc e := by
  unfold addTo addO
  rw [List.take_length]
theorem fold_take {α β : Type} (f : β → α → β) {l : List α} {i : Nat} {x : α} (h : l[i]? = some x) (b : β) : (l.take (i + 1)).foldl f b = f ((l.take i).foldl f b) x := by
  rw [List.take_add_one, h, List.foldl_append]
  rfl
/-- a dict of standings: its keys, none twice, all of the box -/
structure Few (L S : Nat) {β : Type} (m : List (Stn × β)) : Prop where
  nd : (m.map (·.1)).Nodup
  bx : ∀ x ∈ m.map (·.1), Bx L (S : Int) x
theorem Few.le {L S : Nat} {β : Type} {m : List (Stn × β)} (h : Few L S m) : m.length ≤ (S + 1) ^ L := by
  have z := few_of h.nd h.bx
  rw [List.length_map] at z
  exact z
theorem Few.put {L S : Nat} {β : Type} {m : List (Stn × β)} (h : Few L S m) {k : Stn} {v : β} (hk : Bx L (S : Int) k) : Few L S (putA m k v) :=
  ⟨nodup_put _ _ h.nd, fun x hx => by
    rcases mem_put.mp hx with z | z
    · exact h.bx x z
    · rw [z]; exact hk⟩
def spOrigins (K : PySem.W.Frag) : Sp := fun vs H Q _ => ∃ (d : Addr) (od : Obj) (kvs : List (List L2.Key × V)) (es : List Stn) (L S : Nat), vs = [.ref d] ∧ H d = some (.frz od (.dT kvs)) ∧ kvs.map (·.1) = es.map kI ∧ (∀ e ∈ es, Bx L (S : Int) e) ∧ L ≤ 6 ∧ (S + 1) ^ L < sizeLine ∧
  ∀ (p : Addr) (kvs' : List (List L2.Key × V)) (H' : Hp), Same H H' → H p = none → H' p = some (.dT kvs') → Dm (OrgAt K H') kvs' (orgn es) → Few L S (orgn es) → Q (.ref p) H'
section
variable {P : Program} {w : World} {K : PySem.W.Frag} {mg : Str → Option Value} {base : Heap}
abbrev s_origins : Stmt := top 26
theorem sc_origins : FnScope ["front", "found", "earlier", "step"] ["front"] (defScope s_origins) := ⟨rfl, rfl, rfl, by decide +kernel, rfl, by decide +kernel, by decide +kernel⟩
theorem ok_origins {f : Addr} {fd : FuncData} (F : Fun K "origins" "origins" s_origins f fd) (C_steps_from : Cal P w K mg base CX0 2 "steps_from" ["heaps"] (spSteps K)) (C_behind : Cal P w K mg base CX0 2 "behind" ["heaps", "step"] (spBehind K)) : FnOk P w K mg base CX0 3 f fd ["front"] (spOrigins K) := by
  refine F.ok sc_origins (fun vs H Q E h => ?_) (fun cdv A outer s H vs Q E hr h => ?_)
  · obtain ⟨d, od, kvs, es, L, S, rfl, _⟩ := h
    rfl
  · obtain ⟨d, od, kvs, es, L, S, rfl, hd, hk, hbx, hL, hS, k⟩ := h
    have hu := hu_of hr
    refine ⟨_, (pss_cons (ps_set (i := 1) sc_origins.nd rfl (Or.inl rfl) (pe_dnewT))
      (pss_cons (ps_for PassesOwn.never rfl (pi_keys (pv 0)) (pg_name (i := 2) sc_origins.nd rfl (Or.inl rfl))
      (pss_one (ps_for PassesOwn.never rfl (pi_list (pe_cal C_steps_from hr rfl pass0 (pa_cons (pv 2) pa_nil))) (pg_name (i := 3) sc_origins.nd rfl (Or.inl rfl))
      (pss_one (ps_dput hu (pv 1) (pe_cal C_behind hr rfl pass0 (pa_cons (pv 2) (pa_cons (pv 3) pa_nil))) (pe_tup (pa_cons (pv 2) (pa_cons (pv 3) pa_nil))) rfl)))))
      (pss_one (ps_ret (pv 1))))), ?_⟩
    refine fun p hp => ?_
    have hfz : (upd H p (.dT [])) d = some (.frz od (.dT kvs)) := by rw [upd_ne (ne_of_none hd hp)]; exact hd
    have hlen : kvs.length = es.length := by
      have e := congrArg List.length hk
      rw [List.length_map, List.length_map] at e
      exact e
    have hpow : sizeLine = 16777216 := sizeLine_eq
    refine ⟨_, rfl, d, od, rfl, .inr ⟨kvs, hfz, ?_⟩⟩
    refine for_it (walk_keysT (d := d) (o := od) (kvs := kvs)) (fun i σ H1 => ∃ (x2 x3 : Option V) (kv : List (List L2.Key × V)), σ = [some (.ref d), some (.ref p), x2, x3] ∧ Same H H1 ∧ H1 p = some (.dT kv) ∧
      Dm (OrgAt K H1) kv ((es.take i).foldl addO []) ∧ Few L S ((es.take i).foldl addO [])) ?_ ?_ ?_ ?_
    · exact ⟨_, _, [], rfl, Same.new hp, upd_same, Dm.mt, ⟨by simp, fun x hx => by simp at hx⟩⟩
    · rintro i σ H1 _ ⟨x2, x3, kv, rfl, s1, _⟩
      exact s1 _ _ hd
    · rintro i x σ H1 H1' hi ⟨x2, x3, kv, rfl, s1, hp1, hm, hf⟩ ⟨e1, k1, v1, q, hkv, rfl, hq⟩
      subst e1
      have hie : i < es.length := by omega
      obtain ⟨e, he⟩ : ∃ e, es[i]? = some e := ⟨es[i], List.getElem?_eq_getElem hie⟩
      have ek : k1 = kI e := by
        have a1 := congrArg (fun l => l[i]?) hk
        simp only [List.getElem?_map, hkv, he, Option.map_some, Option.some.injEq] at a1
        exact a1
      subst ek
      rw [kI_kV] at hq
      have hbe := hbx e (List.mem_of_getElem? he)
      obtain ⟨b1, b2, b3⟩ := id hbe
      rw [fold_take _ he]
      refine ⟨_, rfl, q, e, rfl, SqT.of hq, by omega, fun l qs H2 s2 hl hP hq2 => ⟨l, rfl, ⟨_, SqL.of hP.ls⟩, ?_⟩⟩
      have hpl : p ≠ l := ne_of_none hp1 hl
      refine for_it (walk_list (K := K) (a := l) (xs := qs.map fun p => V.ref p.1)) (fun j σ H3 => ∃ (x3 : Option V) (kv : List (List L2.Key × V)), σ = [some (.ref d), some (.ref p), some (.ref q), x3] ∧ (∀ b o, b ≠ p → H2 b = some o → H3 b = some o) ∧ H3 p = some (.dT kv) ∧
        Dm (OrgAt K H3) kv (addTo ((es.take i).foldl addO []) e j) ∧ Few L S (addTo ((es.take i).foldl addO []) e j)) ?_ ?_ ?_ ?_
      · exact ⟨_, kv, rfl, fun b o _ q => q, s2 _ _ hp1, hm.imp fun v b r => r.same s2, hf⟩
      · rintro j σ H3 _ ⟨x3, kv3, rfl, s3, _⟩
        exact SqL.of (s3 _ _ hpl.symm hP.ls)
      · rintro j x σ H3 H3' hj ⟨y3, kv3, rfl, s3, hp3, hm3, hf3⟩ ⟨e3, hx⟩
        subst e3
        rw [List.getElem?_map] at hx
        obtain ⟨r, hr3, rfl⟩ := Option.map_eq_some_iff.mp hx
        obtain ⟨a1, a2, a3, a4⟩ := hP.st r (List.mem_of_getElem? hr3)
        have hdue : (due e)[j]? = some r.2 := by rw [← hq2, List.getElem?_map, hr3]; rfl
        have sqt3 : ∀ {b xs}, SqT K H2 b xs → SqT K H3' b xs := fun {b xs} h => by
          rcases h with (h | ⟨ob, h⟩) | h
          · exact .inl (.inl (s3 _ _ (ne_of (s2 _ _ hp1) h fun z => nomatch z).symm h))
          · exact .inl (.inr ⟨ob, s3 _ _ (ne_of (s2 _ _ hp1) h fun z => nomatch z).symm h⟩)
          · exact .inr h
        have hq3 : H3' q = some (.tup (e.map V.int)) := s3 _ _ (ne_of hp1 hq fun z => nomatch z).symm (s2 _ _ hq)
        refine ⟨_, rfl, _, rfl, by show 2 ≤ sizeLine; decide, fun T hT => ?_⟩
        have s4 : Same H3' (upd H3' T (.tup [.ref q, .ref r.1])) := Same.new hT
        refine ⟨_, rfl, _, rfl, _, rfl, q, r.1, e, r.2.1, r.2.2, rfl, SqT.of (s4 _ _ hq3), Same.tup s4 (sqt3 a1), a2, a3, a4, fun y H5 s5 hy hy5 => ?_⟩
        have hp5 := s5 _ _ (s4 _ _ hp3)
        have hmv : Bx L (S : Int) (mv e r.2.1 r.2.2) := hbe.next (List.mem_map.mpr ⟨r.2, List.mem_of_getElem? hdue, rfl⟩)
        have hfew := hf3.put (v := (some (e, r.2) : Org)) hmv
        have hlt : kv3.length < sizeLine := by
          have := hf3.le
          have e5 := hm3.len
          omega
        refine ⟨p, _, rfl, DPut.t (k := kI (mv e r.2.1 r.2.2)) hp5 (by rw [kI_kV]; exact hy5) hlt, ?_⟩
        have orgM : ∀ v o, OrgAt K H5 v o → OrgAt K (upd H5 p (.dT (putK kv3 (kI (mv e r.2.1 r.2.2)) (.ref T)))) v o := fun v o h => h.upd hp5 (fun _ z => nomatch z) fun _ _ z => nomatch z
        refine ⟨_, _, rfl, fun b o nb hb => by rw [upd_ne nb]; exact s5 _ _ (s4 _ _ (s3 _ _ nb hb)), upd_same, ?_, ?_⟩
        · rw [addTo_succ hdue]
          refine ((hm3.imp fun v b r => (r.same s4).same s5).put _ ?_).imp orgM
          exact ⟨T, q, r.1, rfl, s5 _ _ upd_same, s5 _ _ (s4 _ _ hq3), Same.tup s5 (Same.tup s4 (sqt3 a1))⟩
        · rw [addTo_succ hdue]
          exact hfew
      · rintro σ H3 ⟨y3, kv3, rfl, s3, hp3, hm3, hf3⟩
        have el : (qs.map fun p => V.ref p.1).length = (due e).length := by rw [List.length_map, ← hq2, List.length_map]
        rw [el, addTo_all] at hm3 hf3
        exact ⟨_, _, kv3, rfl, fun b o hb => s3 _ _ (ne_of_none hb hp) (s2 _ _ (s1 _ _ hb)), hp3, hm3, hf3⟩
    · rintro σ H1 ⟨x2, x3, kv, rfl, s1, hp1, hm, hf⟩
      rw [hlen, List.take_length, ← orgn_fold] at hm hf
      exact ⟨_, rfl, k p kv H1 s1 hp hp1 hm hf⟩
end
/-- the fronts, one by one, each a dict of its own that is never written again -/
def frG (K : PySem.W.Frag) (ns : Stn) (H0 : Hp) (M : List Addr) : GPr where
  out := fun i Hw x H => ∃ (p fa : Addr) (o : Obj) (kr : List (List L2.Key × V)), x = .ref p ∧ H p = some (.frz o (.dT kr)) ∧ Dm (OrgAt K H) kr (frn ns i) ∧ fa ∉ M ∧ (∀ u, H0 fa = some u → ∃ φ, u = .ext φ) ∧ (∀ u, Hw fa = some u → ∃ kv, u = .dT kv) ∧ ∀ b o, b ≠ fa → Hw b = some o → H b = some o
  fin := fun i Hw H => ∃ fa : Addr, fa ∉ M ∧ (∀ u, H0 fa = some u → ∃ φ, u = .ext φ) ∧ (∀ u, Hw fa = some u → ∃ kv, u = .dT kv) ∧ ∀ b o, b ≠ fa → Hw b = some o → H b = some o
def spFronts (K : PySem.W.Frag) : SpN := fun vs H G n => ∃ (t : Addr) (ns : Stn) (L S : Nat), vs = [.ref t] ∧ H t = some (.tup (ns.map V.int)) ∧ Bx L (S : Int) ns ∧ L ≤ 6 ∧ (S + 1) ^ L < sizeLine ∧ Frs ns n ∧ G = frG K ns H
section
variable {P : Program} {w : World} {K : PySem.W.Frag} {mg : Str → Option Value} {base : Heap}
abbrev s_fronts : Stmt := top 25
theorem sc_fronts : GScope ["heaps", "found", "front", "onward", "stand"] ["heaps"] (defScope s_fronts) := ⟨rfl, rfl, rfl, by decide +kernel, rfl, by decide +kernel, by decide +kernel⟩
theorem nodup_at {α : Type} {l : List α} {i j : Nat} {x : α} (nd : l.Nodup) (a : l[i]? = some x) (b : l[j]? = some x) : i = j := by
  obtain ⟨ha, ea⟩ := List.getElem?_eq_some_iff.mp a
  obtain ⟨hb, eb⟩ := List.getElem?_eq_some_iff.mp b
  exact List.getElem_inj nd |>.mp (ea.trans eb.symm)
theorem ok_fronts {f : Addr} {fd : FuncData} (F : Fun K "fronts" "fronts" s_fronts f fd) (C_origins : Cal P w K mg base CX0 3 "origins" ["front"] (spOrigins K)) : GDef P w K mg base 4 f fd ["heaps"] (spFronts K) := by
  refine Fun.gen (N := ["heaps", "found", "front", "onward", "stand"]) (pre := [_, _]) F sc_fronts rfl (fun vs H G n h => ?_) (fun cdv A outer L hr => ?_)
  · obtain ⟨t, ns, L, S, rfl, _⟩ := h
    rfl
  · have hu := hu_of hr
    refine ⟨_, _, _, _, (.cons (fun _ _ => (ps_set (i := 1) sc_fronts.nd rfl (Or.inr rfl) (pe_disp1 (Nat.lt_of_succ_lt hu) (pv 0) pe_bl))) (.cons (fun _ _ => (ps_frz (ps_set (i := 2) sc_fronts.nd rfl (Or.inl rfl) (pe_disp1 (Nat.lt_of_succ_lt hu) (pv 0) pe_non)))) .nil)), ⟨fun _ _ => (pt_truT (pv 2)), fun _ _ => (pv 2), fun _ _ => (pss_cons (ps_frz (ps_set (i := 3) sc_fronts.nd rfl (Or.inr rfl) (pe_cal C_origins hr rfl pass0 (pa_cons (pv 2) pa_nil))))
      (pss_cons (ps_frz (ps_setDcT (i := 2) (own := [("stand", 4)]) (g := gName 4) hu (by rfl) sc_fronts.nd rfl rfl (sw_trueD rfl rfl rfl (by decide +kernel)) (pi_keys (pv 3)) (blkOk_by (own := [("stand", 4)]) (N := ["heaps", "found", "front", "onward", "stand"]) (sc := defScope s_fronts) (by decide +kernel)) (fun _ _ _ _ _ => ⟨pg_name (i := 4) sc_fronts.nd rfl (Or.inl rfl), pts_one (pt_cmp (pc_dnotin hu (pv 4) (pv 1))), (pv 4), (pe_dget hu (pv 3) (pv 4) (fun _ _ => rfl))⟩)))
      (pss_one (ps_for PassesOwn.never rfl (pi_keys (pv 2)) (pg_name (i := 4) sc_fronts.nd rfl (Or.inl rfl))
      (pss_one (ps_dput hu (pv 1) (pv 4) pe_bl rfl))))))⟩, ?_⟩
    rintro vs H G n ⟨t, ns, L, S, rfl, hT, hB, hL, hS, hF, rfl⟩ M hMH
    have hpow : sizeLine = 16777216 := sizeLine_eq
    refine ⟨fun i Hw σ H' => i ≤ n ∧ MOk M Hw ∧ ∃ (T fa pf : Addr) (o : Obj) (kf kr : List (List L2.Key × V)) (x3 x4 : Option V), σ = [some (.ref T), some (.ref fa), some (.ref pf), x3, x4] ∧ H' fa = some (.dT kf) ∧ Dm (fun v (_ : Unit) => v = .bl true) kf ((fnd ns i).map fun x => (x, ())) ∧
      H' pf = some (.frz o (.dT kr)) ∧ Dm (OrgAt K H') kr (frn ns i) ∧ fa ∉ M ∧ (∀ u, H fa = some u → ∃ φ, u = .ext φ) ∧ (∀ u, Hw fa = some u → ∃ kv, u = .dT kv) ∧ ∀ b o, b ≠ fa → Hw b = some o → H' b = some o, ⟨?_⟩, ?_⟩
    · rintro i Hw σ H' ⟨hi, hMw, T, fa, pf, o, kf, kr, x3, x4, rfl, hfa, hmf, hpf, hmr, hfM, hf0, hfw, hkeep⟩
      have kp : Kp Hw H' := ⟨fun b φ e => hkeep b _ (fun z => by
        subst z
        obtain ⟨kv, q⟩ := hfw _ e
        cases q) e, fun b e => by
        by_cases z : b = fa
        · rw [z, hfa]; simp
        · cases q : Hw b with
          | none => exact absurd q e
          | some u => rw [hkeep b u z q]; simp⟩
      refine ⟨_, rfl, pf, kr, rfl, .inr ⟨o, hpf⟩, ?_⟩
      have hlr := hmr.len
      rcases Bool.eq_false_or_eq_true (!kr.isEmpty) with hb | hb
      · rw [hb]
        have e0 : frn ns i ≠ [] := fun z => by
          rw [z] at hlr
          have : kr = [] := List.length_eq_zero_iff.mp hlr
          rw [this] at hb; cases hb
        have hin : i < n := by
          rcases Nat.lt_or_ge i n with z | z
          · exact z
          · exact absurd (frn_over hF.last i z) e0
        refine iteT ⟨hin, _, rfl, kp, ⟨pf, fa, o, kr, rfl, hpf, hmr, hfM, hf0, hfw, hkeep⟩, fun Hw2 nx mo => ?_⟩
        have nM : ∀ b u, H' b = some u → ¬ Own u → b ∉ M := fun b u e no hb => by
          obtain ⟨u2, ow, e2⟩ := hMw b hb
          have e3 := hkeep b u2 (fun z => hfM (z ▸ hb)) e2
          rw [e] at e3; cases e3; exact no ow
        have tup2 : ∀ b xs, H' b = some (.tup xs) → Hw2 b = some (.tup xs) := fun b xs e => nx b _ (nM b _ e fun z => z.nt xs rfl) (fun φ z => nomatch z) e
        have sqt2 : ∀ b xs, SqT K H' b xs → SqT K Hw2 b xs := fun b xs h => by
          rcases h with (h | ⟨ob, h⟩) | h
          · exact .inl (.inl (tup2 b xs h))
          · exact .inl (.inr ⟨ob, nx b _ (nM b _ h fun z => z.nf ob _ rfl) (fun φ z => nomatch z) h⟩)
          · exact .inr h
        have hpf2 : Hw2 pf = some (.frz o (.dT kr)) := nx pf _ (nM pf _ hpf fun z => z.nf _ _ rfl) (fun φ z => nomatch z) hpf
        have hfa2 : Hw2 fa = some (.dT kf) := nx fa _ hfM (fun φ z => nomatch z) hfa
        have hmr2 : Dm (OrgAt K Hw2) kr (frn ns i) := hmr.imp fun v b r => r.mono tup2 sqt2
        refine ⟨_, rfl, pf, o, kr, (frn ns i).map (·.1), L, S, rfl, hpf2, hmr2.keys, frn_bx hB i, hL, hS, fun p1 kv1 H3 s3 hp1 hd1 hm1 hf1 => ⟨p1, _, hd1, True.intro, fun od1 => ?_⟩⟩
        have nfp : fa ≠ p1 := ne_of_none hfa2 hp1
        have s4 : Same Hw2 (upd H3 p1 (.frz od1 (.dT kv1))) := fun b u e => by rw [upd_ne (ne_of_none e hp1)]; exact s3 b u e
        have hm4 : Dm (OrgAt K (upd H3 p1 (.frz od1 (.dT kv1)))) kv1 (orgn ((frn ns i).map (·.1))) := hm1.imp fun v b r => r.upd hd1 (fun _ z => nomatch z) fun _ _ z => nomatch z
        have hd4 : (upd H3 p1 (.frz od1 (.dT kv1))) p1 = some (.frz od1 (.dT kv1)) := upd_same
        generalize upd H3 p1 (.frz od1 (.dT kv1)) = H4 at s4 hm4 hd4 ⊢
        have hfa4 := s4 _ _ hfa2
        refine ⟨_, rfl, p1, od1, rfl, .inr ⟨kv1, hd4, fun D hD => ?_⟩⟩
        refine dcT_it (walk_keysT (d := p1) (o := od1) (kvs := kv1)) (fun j H5 => ∃ kv', H5 D = some (.dT kv') ∧ Dm (OrgAt K H5) kv' (((orgn ((frn ns i).map (·.1))).take j).filter fun q => decide (q.1 ∉ fnd ns i)) ∧ ∀ b u, b ≠ D → H4 b = some u → H5 b = some u) ?_ ?_ ?_ ?_
        · exact ⟨[], upd_same, Dm.mt, fun b u nb e => by rw [upd_ne nb]; exact e⟩
        · rintro j H5 _ ⟨kv', _, _, k5⟩
          exact k5 _ _ (ne_of_none hd4 hD) hd4
        · rintro j x H5 H5' hj ⟨kv', hD5, hm5, k5⟩ ⟨e5, kk, vv, q, hkv, rfl, hq⟩
          subst e5
          obtain ⟨y, b, hy, rfl, hr⟩ := hm4.get hkv
          have hfa5 := k5 _ _ (ne_of_none hfa4 hD) hfa4
          have hp5 := k5 _ _ (ne_of_none hd4 hD) hd4
          have take5 : ((orgn ((frn ns i).map (·.1))).take (j + 1)).filter (fun q => decide (q.1 ∉ fnd ns i)) = ((orgn ((frn ns i).map (·.1))).take j).filter (fun q => decide (q.1 ∉ fnd ns i)) ++ (if y ∉ fnd ns i then [(y, b)] else []) := by
            rw [filter_take hy]
            by_cases z : y ∉ fnd ns i
            · rw [if_pos (decide_eq_true z), if_pos z]
            · rw [if_neg (by rw [decide_eq_false z]; decide), if_neg z]
          refine ⟨rfl, _, rfl, _, rfl, fa, _, rfl, DGet.t hfa5 hq, _, rfl, ?_⟩
          rw [hmf.isSome y]
          have emem : decide (y ∈ ((fnd ns i).map fun x => (x, ())).map (·.1)) = decide (y ∈ fnd ns i) := by
            rw [List.map_map]
            congr 1
            simp
          rw [emem]
          by_cases z : y ∈ fnd ns i
          · rw [decide_eq_true z]
            refine iteF ⟨kv', hD5, ?_, k5⟩
            rw [take5, if_neg (fun u => u z), List.append_nil]
            exact hm5
          · rw [decide_eq_false z]
            obtain ⟨b2, v2, hl2, hv2, hr2⟩ := hm4.on (k := y) (List.mem_map.mpr ⟨(y, b), List.mem_of_getElem? hy, rfl⟩)
            have eb : b2 = b := by
              have := lookA_at hf1.nd (List.mem_of_getElem? hy)
              rw [hl2] at this
              exact Option.some.inj this
            subst eb
            have hlt : kv'.length < sizeLine := by
              have e1 := hm5.len
              have e2 := List.length_filter_le (fun q => decide (q.1 ∉ fnd ns i)) ((orgn ((frn ns i).map (·.1))).take j)
              rw [List.length_take] at e2
              have e3 := hf1.le
              omega
            have hnk : y ∉ (((orgn ((frn ns i).map (·.1))).take j).filter fun q => decide (q.1 ∉ fnd ns i)).map (·.1) := fun u => by
              obtain ⟨q2, hq2, e2⟩ := List.mem_map.mp u
              have hq3 := (List.mem_filter.mp hq2).1
              obtain ⟨j2, hj2, e3⟩ := List.mem_iff_getElem.mp hq3
              rw [List.length_take] at hj2
              rw [List.getElem_take] at e3
              have n1 : ((orgn ((frn ns i).map (·.1))).map (·.1))[j2]? = some y := by rw [List.getElem?_map, List.getElem?_eq_getElem (by omega), e3, ← e2]; rfl
              have n2 : ((orgn ((frn ns i).map (·.1))).map (·.1))[j]? = some y := by rw [List.getElem?_map, hy]; rfl
              have := nodup_at hf1.nd n1 n2
              omega
            refine iteT ⟨_, rfl, _, rfl, _, rfl, p1, v2, rfl, .inr ⟨kv1, kI y, q, .inr ⟨od1, hp5⟩, rfl, hq, hv2.symm⟩, kv', kI y, q, rfl, hq, hD5, hlt, ?_⟩
            refine ⟨_, upd_same, ?_, fun b u nb e => by rw [upd_ne nb]; exact k5 b u nb e⟩
            rw [take5, if_pos z]
            have hp := hm5.put y (v := v2) (b := b2) ?_
            · rw [put_new hnk] at hp
              exact hp.imp fun v b r => r.upd hD5 (fun _ z => nomatch z) fun _ _ z => nomatch z
            · exact hr2.mono (fun b xs e => k5 _ _ (ne_of_none e hD) e) fun b xs h => by
                rcases h with (h | ⟨ob, h⟩) | h
                · exact .inl (.inl (k5 _ _ (ne_of_none h hD) h))
                · exact .inl (.inr ⟨ob, k5 _ _ (ne_of_none h hD) h⟩)
                · exact .inr h
        · rintro H5 ⟨kv', hD5, hm5, k5⟩
          have hl4 := hm4.len
          rw [hl4, List.take_length, ← frn_succ] at hm5
          refine ⟨D, _, hD5, True.intro, fun od2 => ?_⟩
          have hfa5 := k5 _ _ (ne_of_none hfa4 hD) hfa4
          have nfD : fa ≠ D := ne_of_none hfa4 hD
          have hm6 : Dm (OrgAt K (upd H5 D (.frz od2 (.dT kv')))) kv' (frn ns (i + 1)) := hm5.imp fun v b r => r.upd hD5 (fun _ z => nomatch z) fun _ _ z => nomatch z
          have hD6 : (upd H5 D (.frz od2 (.dT kv'))) D = some (.frz od2 (.dT kv')) := upd_same
          have hfa6 : (upd H5 D (.frz od2 (.dT kv'))) fa = some (.dT kf) := by rw [upd_ne nfD]; exact hfa5
          have k6 : ∀ b u, Hw2 b = some u → (upd H5 D (.frz od2 (.dT kv'))) b = some u := fun b u e => by
            have e4 := s4 b u e
            rw [upd_ne (ne_of_none e4 hD)]
            exact k5 b u (ne_of_none e4 hD) e4
          generalize upd H5 D (.frz od2 (.dT kv')) = H6 at hm6 hD6 hfa6 k6 ⊢
          refine ⟨_, rfl, D, od2, rfl, .inr ⟨kv', hD6, ?_⟩⟩
          refine for_it (walk_keysT (d := D) (o := od2) (kvs := kv')) (fun j σ H7 => ∃ (x4 : Option V) (kf' : List (List L2.Key × V)), σ = [some (.ref T), some (.ref fa), some (.ref D), some (.ref p1), x4] ∧ H7 fa = some (.dT kf') ∧
            Dm (fun v (_ : Unit) => v = .bl true) kf' ((fnd ns i ++ ((frn ns (i + 1)).take j).map (·.1)).map fun x => (x, ())) ∧ ∀ b u, b ≠ fa → H6 b = some u → H7 b = some u) ?_ ?_ ?_ ?_
          · refine ⟨_, kf, rfl, hfa6, ?_, fun b u _ e => e⟩
            simpa using hmf
          · rintro j σ H7 _ ⟨x4, kf', rfl, _, _, k7⟩
            exact k7 _ _ nfD.symm hD6
          · rintro j x σ H7 H7' hj ⟨x4', kf', rfl, hf7, hm7, k7⟩ ⟨e7, kk, vv, q, hkv, rfl, hq⟩
            subst e7
            obtain ⟨y, b, hy, rfl, hr⟩ := hm6.get hkv
            have hjl : j < (frn ns (i + 1)).length := (List.getElem?_eq_some_iff.mp hy).1
            have hlt : kf'.length < sizeLine := by
              have e1 := hm7.len
              rw [List.length_map, List.length_append, List.length_map, List.length_take] at e1
              have e2 := few_of (fnd_nodup ns (i + 1)) (fnd_bx hB (i + 1))
              rw [fnd_succ, List.length_append, List.length_map] at e2
              omega
            have hnk : y ∉ ((fnd ns i ++ ((frn ns (i + 1)).take j).map (·.1)).map fun x => (x, ())).map (·.1) := fun u => by
              have u2 : y ∈ fnd ns i ++ ((frn ns (i + 1)).take j).map (·.1) := by
                obtain ⟨q1, hq1, e1⟩ := List.mem_map.mp u
                obtain ⟨q0, hq0, e0⟩ := List.mem_map.mp hq1
                rw [← e1, ← e0]
                exact hq0
              rcases List.mem_append.mp u2 with u3 | u3
              · exact frn_new ns i y (List.mem_map.mpr ⟨(y, b), List.mem_of_getElem? hy, rfl⟩) u3
              · obtain ⟨q2, hq2, e2⟩ := List.mem_map.mp u3
                obtain ⟨j2, hj2, e3⟩ := List.mem_iff_getElem.mp hq2
                rw [List.length_take] at hj2
                rw [List.getElem_take] at e3
                have n1 : ((frn ns (i + 1)).map (·.1))[j2]? = some y := by rw [List.getElem?_map, List.getElem?_eq_getElem (by omega), e3, ← e2]; rfl
                have n2 : ((frn ns (i + 1)).map (·.1))[j]? = some y := by rw [List.getElem?_map, hy]; rfl
                have := nodup_at (frn_nodup ns (i + 1)) n1 n2
                omega
            refine ⟨_, rfl, _, rfl, fa, _, rfl, DPut.t (k := kI y) hf7 hq hlt, ?_⟩
            refine ⟨_, _, rfl, upd_same, ?_, fun b u nb e => by rw [upd_ne nb]; exact k7 b u nb e⟩
            have hp := hm7.put y (v := .bl true) (b := ()) rfl
            rw [put_new hnk] at hp
            have e8 : (fnd ns i ++ ((frn ns (i + 1)).take (j + 1)).map (·.1)).map (fun x => (x, ())) = (fnd ns i ++ ((frn ns (i + 1)).take j).map (·.1)).map (fun x => (x, ())) ++ [(y, ())] := by
              rw [List.take_add_one, hy]
              simp only [List.map_append, List.append_assoc, Option.toList, List.map_cons, List.map_nil]
            rw [e8]
            exact hp
          · rintro σ H7 ⟨x4', kf', rfl, hf7, hm7, k7⟩
            have hl6 := hm6.len
            rw [hl6, List.take_length, ← fnd_succ] at hm7
            refine ⟨by omega, mo, T, fa, D, od2, kf', kv', _, _, rfl, hf7, hm7, k7 _ _ nfD.symm hD6, ?_, hfM, hf0, fun u e => ⟨kf, by rw [hfa2] at e; exact (Option.some.inj e).symm⟩, fun b u nb e => k7 b u nb (k6 b u e)⟩
            exact hm6.imp fun v b r => r.mono (fun b xs e => k7 _ _ (ne_of hfa6 e fun z => nomatch z).symm e) fun b xs h => by
              rcases h with (h | ⟨ob, h⟩) | h
              · exact .inl (.inl (k7 _ _ (ne_of hfa6 h fun z => nomatch z).symm h))
              · exact .inl (.inr ⟨ob, k7 _ _ (ne_of hfa6 h fun z => nomatch z).symm h⟩)
              · exact .inr h
      · rw [hb]
        have hkr : kr = [] := by simpa using hb
        rw [hkr] at hlr
        have e0 : frn ns i = [] := List.length_eq_zero_iff.mp hlr.symm
        have hin : i = n := by
          rcases Nat.lt_or_ge i n with z | z
          · exact absurd e0 (hF.more i z)
          · omega
        exact iteF ⟨hin, kp, fa, hfM, hf0, hfw, hkeep⟩
    · intro Hw nx mo
      have tM : t ∉ M := fun hb => (hMH t hb _ hT).nt _ rfl
      have hTw : Hw t = some (.tup (ns.map V.int)) := nx t _ tM (fun φ z => nomatch z) hT
      have hk1 : (kI ns).map kV = ns.map V.int := kI_kV ns
      refine fun fa hfa => ⟨_, rfl, t, kI ns, rfl, by rw [hk1, upd_ne (ne_of_none hTw hfa)]; exact hTw, upd_same, ?_⟩
      have hT1 : ∀ kv, (upd (upd Hw fa (.dT [])) fa (.dT kv)) t = some (.tup (ns.map V.int)) := fun kv => by rw [upd_upd, upd_ne (ne_of_none hTw hfa)]; exact hTw
      have hfa1 : (upd (upd Hw fa (.dT [])) fa (.dT [(kI ns, .bl true)])) fa = some (.dT [(kI ns, .bl true)]) := upd_same
      have keep1 : ∀ b o, b ≠ fa → Hw b = some o → (upd (upd Hw fa (.dT [])) fa (.dT [(kI ns, .bl true)])) b = some o := fun b o nb e => by
        rw [upd_ne nb, upd_ne nb]
        exact e
      have hT2 := hT1 [(kI ns, .bl true)]
      generalize upd (upd Hw fa (.dT [])) fa (.dT [(kI ns, .bl true)]) = H1 at hT2 hfa1 keep1 ⊢
      refine fun pf hpf => ⟨_, rfl, t, kI ns, rfl, by rw [hk1, upd_ne (ne_of_none hT2 hpf)]; exact hT2, upd_same, ?_⟩
      refine ⟨pf, _, upd_same, True.intro, fun od => ?_⟩
      have nfp : fa ≠ pf := ne_of_none hfa1 hpf
      refine ⟨Nat.zero_le _, mo, t, fa, pf, od, _, _, none, none, rfl, by rw [upd_ne nfp, upd_ne nfp, upd_ne nfp]; exact hfa1, ?_, upd_same, ?_, fun hb => ?_, fun u e => ?_, fun u e => ?_, fun b o nb e => ?_⟩
      · exact Dm.mt.put ns rfl
      · exact Dm.mt.put ns rfl
      · obtain ⟨o, _, e⟩ := mo fa hb
        rw [hfa] at e; cases e
      · cases u with
        | ext φ => exact ⟨φ, rfl⟩
        | _ =>
          have e2 := nx fa _ (fun hb => by
            obtain ⟨o, _, e⟩ := mo fa hb
            rw [hfa] at e; cases e) (by intro φ z; cases z) e
          rw [hfa] at e2; cases e2
      · rw [hfa] at e; cases e
      · have e1 := keep1 b o nb e
        have nb2 : b ≠ pf := ne_of_none e1 hpf
        rw [upd_ne nb2, upd_ne nb2, upd_ne nb2]
        exact e1
end
end Hd
set_option maxHeartbeats 4000000
/-! sorted(xs), a list of tuples of ints, however long. -/
namespace Hd
open PySem PySem.Spec PyProof.Rows L2
def stD0 (ns : Stn) : PyData := .tuple (ns.map .int)
def stLe : Stn → Stn → Bool := PySem.W.dataLe false stD0
def hrLe : Hrow → Hrow → Bool := fun p q => stLe p.2 q.2
theorem toks_in : ∀ (xs ys : List Int) (r r' : List (Int ⊕ List Nat)), PySem.W.keyToksAll (xs.map .int) ++ r = PySem.W.keyToksAll (ys.map .int) ++ r' → xs = ys ∧ r = r'
  | [], [], r, r', e => ⟨rfl, by simpa [PySem.W.keyToksAll] using e⟩
  | [], y :: ys, r, r', e => by simp [PySem.W.keyToksAll] at e
  | x :: xs, [], r, r', e => by simp [PySem.W.keyToksAll] at e
  | x :: xs, y :: ys, r, r', e => by
    simp only [List.map_cons, PySem.W.keyToksAll, PySem.W.keyToks, List.cons_append, List.nil_append, List.cons.injEq, true_and, Sum.inl.injEq] at e
    obtain ⟨a, b⟩ := toks_in xs ys r r' e.2
    exact ⟨by rw [e.1, a], b⟩
theorem stLe_total : PySem.W.TotalLe stLe := PySem.W.sortLe_total _ false _
theorem stLe_anti {x y : Stn} (h1 : stLe x y = true) (h2 : stLe y x = true) : x = y := by
  have e : PySem.W.keyToks (stD0 x) = PySem.W.keyToks (stD0 y) := by
    refine (listOrd itemOrd).total _ _ ?_ ?_
    · have z : (!PySem.W.dataLt (stD0 y) (stD0 x)) = true := h1
      have z2 : (!PySem.W.dataLt (stD0 x) (stD0 y)) = true := h2
      simpa [PySem.W.dataLt] using z2
    · have z : (!PySem.W.dataLt (stD0 y) (stD0 x)) = true := h1
      simpa [PySem.W.dataLt] using z
  unfold stD0 at e
  simp only [PySem.W.keyToks, List.cons.injEq, true_and] at e
  exact (toks_in x y [] [] (by simpa using e)).1
theorem vrefs {α : Type} (f : α → Addr) : ∀ xs : List α, Vals (xs.map fun x => V.ref (f x)) (xs.map fun x => Value.ref (f x))
  | [] => .nil
  | x :: xs => .cons rfl (vrefs f xs)
theorem vrefs_of {α : Type} (f : α → Addr) : ∀ {xs : List α} {us : List Value}, Vals (xs.map fun x => V.ref (f x)) us → us = xs.map fun x => Value.ref (f x)
  | [], _, .nil => rfl
  | x :: xs, _, .cons r t => by
    cases r
    rw [vrefs_of f t]
    rfl
theorem erefs {α : Type} (f : α → Addr) : ∀ (xs : List α) {R : Value → α → Prop}, (∀ x ∈ xs, R (.ref (f x)) x) → PySem.W.EachIs R (xs.map fun x => Value.ref (f x)) xs
  | [], _, _ => .nil
  | x :: xs, _, h => .cons (h x List.mem_cons_self) (erefs f xs fun y hy => h y (List.mem_cons_of_mem _ hy))
theorem erefs_of {α : Type} (f : α → Addr) : ∀ {us : List Value} {xs : List α}, PySem.W.EachIs (fun v x => v = Value.ref (f x)) us xs → us = xs.map fun x => Value.ref (f x)
  | _, _, .nil => rfl
  | _, _, .cons e t => by rw [e, erefs_of f t]; rfl
/-- sorted(xs), the list at l of tuples -/
def rSortHs (K : PySem.W.Frag) : List V → Hp → VK → Prop := fun vs H Q => ∃ (l : Addr) (hs : List Hrow), vs = [V.ref l] ∧ SqL K H l (hs.map fun x => V.ref x.1) ∧ (∀ x ∈ hs, SqT K H x.1 (x.2.map V.int) ∧ x.2 ≠ []) ∧
  ∀ p, H p = none → Q (.ref p) (upd H p (.lst ((hs.mergeSort hrLe).map fun x => V.ref x.1)))
theorem cr_sortHs {X : Cx} (hu : X.A.units + 64 < cLine) : CallR X (.builtin "sorted") (rSortHs X.K) := by
  intro pins s σ H vs us Q I r h
  obtain ⟨l, xs, rfl, hl, hx, q⟩ := h
  rw [Vals.ref1 r]
  obtain ⟨its, rv, pl, hz⟩ := I.list hl
  have ev := vrefs_of (fun x : Hrow => x.1) rv
  subst ev
  have hlen : xs.length ≤ sizeLine := by rw [List.length_map] at hz; exact hz
  have rd : ∀ x ∈ xs, Reads s.heap (.ref x.1) (stD0 x.2) [] := fun x m => by
    obtain ⟨vs, rv, ⟨o, g, c, n, d⟩, _⟩ := I.tuple (hx x m).1
    exact .tuple g c d (by simpa using reads_ints (h := s.heap) rv.ints)
  refine PySem.W.sorted_data (R := fun v x => v = Value.ref x.1) (enc := fun x : Hrow => stD0 x.2) (bs := xs) pl.isList (erefs _ xs fun _ _ => rfl) (erefs _ xs fun x m => ⟨[], rd x m⟩) (PySem.W.AllAlike.of fun x y => by
      unfold stD0
      have e1 := PySem.W.alike_ints x.2 y.2
      simp [PySem.W.alike, e1]) (.inl fun d hd => by
      obtain ⟨x, m, rfl⟩ := List.mem_map.mp hd
      cases e : x.2 with
      | nil => exact absurd e (hx x m).2
      | cons y r => exact ⟨_, _, rfl⟩) hlen (fun x m => by
      have e1 := deep_ints x.2
      unfold stD0
      simp only [PyData.depth]
      omega) fun out hol e => ?_
  obtain ⟨n, hn⟩ := sortedAll_at s.heap (xs.map fun x => Value.ref x.1) out.toArray
  have eo := erefs_of (fun x : Hrow => x.1) e
  refine ⟨.ref (s.heap.objs.size + 1), upd H (s.heap.objs.size + 1) (.lst ((xs.mergeSort hrLe).map fun x => V.ref x.1)), I.laid (t' := s.toks) (fun b u e => sortedAll_old e) (Nat.le_succ _) ⟨?_, out, n, ?_, hn⟩, rfl, q _ (I.hok.fresh (Nat.le_succ _))⟩
  · rw [List.length_map, List.length_mergeSort]
    exact hlen
  · rw [eo]
    exact vrefs _ _
theorem map_sortH (hs : List Hrow) : (hs.mergeSort hrLe).map (·.2) = (hs.map (·.2)).mergeSort stLe :=
  List.map_mergeSort (r := hrLe) (s := stLe) (f := fun p : Hrow => p.2) (fun _ _ _ _ => rfl)
/-- what is no piece of another's keeps: what is known, but for what is told by a word -/
theorem NX.tup {K : PySem.W.Frag} {H H' : Hp} {b : Addr} {xs : List V} (n : NX H H') (h : SqT K H b xs) : SqT K H' b xs := by
  rcases h with (h | ⟨o, h⟩) | h
  · exact .inl (.inl (n _ _ (fun _ z => nomatch z) h))
  · exact .inl (.inr ⟨o, n _ _ (fun _ z => nomatch z) h⟩)
  · exact .inr h
theorem NX.lst {H H' : Hp} {b : Addr} {xs : List V} (n : NX H H') (h : H b = some (.lst xs)) : H' b = some (.lst xs) := n _ _ (fun _ z => nomatch z) h
theorem NX.of {H H' : Hp} (s : Same H H') : NX H H' := fun b o _ e => s b o e
theorem HpL.nx {K : PySem.W.Frag} {H H' : Hp} {t : Addr} {hs : List Hrow} (e : NX H H') (h : HpL K H t hs) : HpL K H' t hs := ⟨e.lst h.ls, fun p hp => e.tup (h.st p hp)⟩
end Hd
set_option maxHeartbeats 8000000
/-! Small heaps: what comes to be of them. -/
namespace Hd
open PySem PySem.Spec PyProof.Rows L2
structure Tsm (mg : Str → Option Value) : Prop extends Tz mg where
  msh : ∃ t, mg "MOST_SMALL_HEAPS" = some (.int 4 t)
  gss : ∃ t, mg "GREATEST_SMALL_SUM" = some (.int 40 t)
/-- no more than four heaps, of forty at most -/
def smlB (ns : Stn) : Bool := decide (ns.length ≤ 4) && decide (ns.sum ≤ 40)
theorem all_nn {ns : Stn} (h : (ns.map (inR 0 (10 ^ 30))).all id = true) : NN ns := by
  intro i
  by_cases hi : i < ns.length
  · have := List.all_eq_true.mp h (inR 0 (10 ^ 30) ns[i]) (List.mem_map.mpr ⟨ns[i], List.getElem_mem hi, rfl⟩)
    unfold inR at this
    simp only [id, Bool.and_eq_true, decide_eq_true_eq] at this
    rw [List.getD_eq_getElem?_getD, List.getElem?_eq_getElem hi]
    exact this.1
  · rw [List.getD_eq_getElem?_getD, List.getElem?_eq_none (by omega)]
    exact Int.le_refl 0
theorem hps_bx {ns : Stn} (h : hpsB ns = true) : Bx ns.length (ns.sum.toNat : Int) ns ∧ 0 < ns.sum := by
  unfold hpsB at h
  simp only [Bool.and_eq_true, decide_eq_true_eq] at h
  exact ⟨⟨rfl, all_nn h.2.1, by omega⟩, h.2.2⟩
theorem sml_room {ns : Stn} (h : hpsB ns = true) (hs : smlB ns = true) : (ns.sum.toNat + 1) ^ ns.length < sizeLine ∧ ns.length ≤ 4 ∧ 2 ≤ ns.length := by
  obtain ⟨h1, h2⟩ := hps_bx h
  unfold smlB at hs
  simp only [Bool.and_eq_true, decide_eq_true_eq] at hs
  have l2 := (hps_len h).1
  refine ⟨?_, hs.1, l2⟩
  have a1 : (ns.sum.toNat + 1) ^ ns.length ≤ 41 ^ ns.length := Nat.pow_le_pow_left (by omega) _
  have a2 : 41 ^ ns.length ≤ 41 ^ 4 := Nat.pow_le_pow_right (by decide) hs.1
  rw [sizeLine_eq]
  have a3 : 41 ^ 4 < 16777216 := by decide
  omega
theorem dpall_intsR {K : PySem.W.Frag} {H : Hp} : ∀ {xs : List V} {ns : Stn}, DpAll K H xs (ns.map PyData.int) → xs = ns.map V.int
  | [], [], _ => rfl
  | [], _ :: _, h => nomatch h
  | _ :: _, [], h => nomatch h
  | x :: xs, n :: ns, h => by
    rw [List.map_cons] at h
    cases h with
    | cons a b =>
      cases a
      rw [List.map_cons, ← dpall_intsR b]
theorem dp_dI {K : PySem.W.Frag} {H : Hp} {v : V} {ns : Stn} (h : Dp K H v (dI ns)) : ∃ t, v = .ref t ∧ SqT K H t (ns.map V.int) := by
  unfold dI at h
  generalize e : PyData.tuple (ns.map PyData.int) = d at h
  cases h <;> first | cases e | skip
  rename_i t xs hS hA
  refine ⟨t, rfl, ?_⟩
  rw [← dpall_intsR hA]
  exact hS
/-- nothing is told of it, but by a word -/
def Nu (H : Hp) (l : Addr) : Prop := ∀ u, H l = some u → ∃ φ, u = .ext φ
/-- a walk inside a comprehension, whatever its body -/
theorem in_it {J : L2.It} {n : Nat} {G : Hp → Prop} {Y : Nat → Hp → V → Hp → Prop} (w : Walk J n G Y) {H0 : Hp} {Qd : Hp → Prop} {body : V → Hp → (Hp → Prop) → Prop} (Pv : Nat → Hp → Prop) (h0 : Pv 0 H0) (hG : ∀ i H, i ≤ n → Pv i H → G H)
    (hs : ∀ i x H H', i < n → Pv i H → Y i H x H' → body x H' (Pv (i + 1))) (hd : ∀ H, Pv n H → Qd H) :
    ∃ W : Nat → Nat → Hp → Prop, (∃ m, W 0 m H0) ∧ ∀ i m H, W i m H → (J.stop i H ∧ Qd H) ∨ (J.go i H ∧ ∃ Nx : Hp → Prop, (∀ H', Nx H' → ∃ m', m' < m ∧ W (i + 1) m' H') ∧ ∀ x H', J.yld i H x H' → body x H' Nx) := by
  refine ⟨fun i m H => m + i = n ∧ Pv i H, ⟨n, rfl, h0⟩, ?_⟩
  rintro i m H ⟨e, p⟩
  by_cases hlt : i < n
  · exact .inr ⟨w.goes i H hlt (hG i H (by omega) p), Pv (i + 1), fun H' p' => ⟨m - 1, by omega, by omega, p'⟩, fun x H' y => hs i x H H' hlt p (w.yields i H x H' hlt (hG i H (by omega) p) y)⟩
  · have e2 : i = n := by omega
    subst e2
    exact .inl ⟨w.stops H (hG i H (Nat.le_refl _) p), hd H p⟩
/-- what the generator leaves, seen by the one that walks it -/
theorem nx_turn {H1 H3 Hw Hi H4 : Hp} {fa : Addr} (n3 : NX H1 H3) (nw : NX H3 Hw) (hf0 : ∀ u, H1 fa = some u → ∃ φ, u = .ext φ) (hkeep : ∀ b o, b ≠ fa → Hw b = some o → Hi b = some o) (ni : NX Hi H4) : NX H1 H4 := fun b o no e =>
  ni b o no (hkeep b o (fun z => by
    subst z
    obtain ⟨φ, z⟩ := hf0 o e
    exact no φ z) (nw b o no (n3 b o no e)))
theorem tup_turn {H3 Hw Hi H4 : Hp} {fa b : Addr} {xs : List V} (nw : NX H3 Hw) (hfw : ∀ u, Hw fa = some u → ∃ kv, u = .dT kv) (hkeep : ∀ b o, b ≠ fa → Hw b = some o → Hi b = some o) (ni : NX Hi H4) (e : H3 b = some (.tup xs)) : H4 b = some (.tup xs) :=
  ni b _ (by intro φ z; cases z) (hkeep b _ (fun z => by
    subst z
    obtain ⟨kv, z⟩ := hfw _ (nw b _ (by intro φ z; cases z) e)
    cases z) (nw b _ (by intro φ z; cases z) e))
theorem lst_turn {M : List Addr} {H3 Hw Hi H4 : Hp} {fa b : Addr} {o : HO} (no : ∀ φ, o ≠ .ext φ) (hb : b ∈ M) (hfM : fa ∉ M) (nw : NX H3 Hw) (hkeep : ∀ b o, b ≠ fa → Hw b = some o → Hi b = some o) (ni : NX Hi H4) (e : H3 b = some o) : H4 b = some o :=
  ni b _ no (hkeep b _ (fun z => hfM (z ▸ hb)) (nw b _ no e))
def spChkSmall (K : PySem.W.Frag) (C G : Addr) : Sp := fun vs H Q E => ∃ (v : V) (d : PyData), vs = [v] ∧ Dp K H v d ∧ (hpsD d = false → ∀ H', Same H H' → E (.ref C) none H') ∧
  ∀ ns, d = dI ns → hpsB ns = true → (smlB ns = true → ∀ H', Same H H' → Q .non H') ∧ (smlB ns = false → ∀ H', Same H H' → E (.ref G) none H')
/-- what the fronts ahead of turn i hold -/
def upto (ns : Stn) (i : Nat) : List Stn := (List.range i).flatMap fun j => (frn ns j).map (·.1)
theorem upto_succ (ns : Stn) (i : Nat) : upto ns (i + 1) = upto ns i ++ (frn ns i).map (·.1) := by
  unfold upto
  rw [List.range_succ, List.flatMap_append]
  simp
theorem upto_fnd (ns : Stn) : ∀ i, upto ns (i + 1) = fnd ns i
  | 0 => by simp [upto, fnd, frn, stA]
  | i + 1 => by rw [upto_succ, upto_fnd ns i, fnd_succ]
theorem upto_all {ns : Stn} {n : Nat} (h : Frs ns n) : upto ns n = fnd ns n := by
  cases n with
  | zero =>
    have := h.last
    simp [frn, stA] at this
  | succ i => rw [upto_fnd, fnd_succ, h.last]; simp
theorem upto_short {L S : Nat} {ns : Stn} (hB : Bx L (S : Int) ns) (i : Nat) : (upto ns i).length ≤ (S + 1) ^ L := by
  cases i with
  | zero => simp [upto]
  | succ i =>
    rw [upto_fnd]
    exact few_of (fnd_nodup ns i) (fnd_bx hB i)
def spReach (K : PySem.W.Frag) (C G : Addr) : Sp := fun vs H Q E => ∃ (v : V) (d : PyData), vs = [v] ∧ Dp K H v d ∧ (hpsD d = false → ∀ H', Same H H' → E (.ref C) none H') ∧
  ∀ ns, d = dI ns → hpsB ns = true → (smlB ns = false → ∀ H', Same H H' → E (.ref G) none H') ∧
    (smlB ns = true → (∃ t, v = .ref t ∧ H t = some (.tup (ns.map V.int))) ∧ ∀ n, Frs ns n → ∀ (l : Addr) (hs : List Hrow) (H' : Hp), NX H H' → Nu H l → H' l = some (.lst (hs.map fun p => V.ref p.1)) → (∀ p ∈ hs, H' p.1 = some (.tup (p.2.map V.int))) → hs.map (·.2) = (fnd ns n).mergeSort stLe → Q (.ref l) H')
/-- .. of good heaps -/
def spReachC (K : PySem.W.Frag) : Sp := fun vs H Q _ => ∃ (t : Addr) (ns : Stn), vs = [.ref t] ∧ H t = some (.tup (ns.map V.int)) ∧ hpsB ns = true ∧ smlB ns = true ∧
  ∀ n, Frs ns n → ∀ (l : Addr) (hs : List Hrow) (H' : Hp), NX H H' → Nu H l → H' l = some (.lst (hs.map fun p => V.ref p.1)) → (∀ p ∈ hs, H' p.1 = some (.tup (p.2.map V.int))) → hs.map (·.2) = (fnd ns n).mergeSort stLe → Q (.ref l) H'
theorem hpsD_of {ns : Stn} (h : hpsB ns = true) : hpsD (dI ns) = true := by rw [hpsD_dI]; exact h
theorem dI_inj {a b : Stn} (h : dI a = dI b) : a = b := by
  unfold dI at h
  have := PyData.tuple.inj h
  clear h
  induction a generalizing b with
  | nil =>
    cases b with
    | nil => rfl
    | cons => simp at this
  | cons x a ih =>
    cases b with
    | nil => simp at this
    | cons y b =>
      simp only [List.map_cons, List.cons.injEq, PyData.int.injEq] at this
      rw [this.1, ih this.2]
theorem reach_good {K : PySem.W.Frag} {C G : Addr} {vs : List V} {H : Hp} {Q : VK} {E : XK} (h : spReachC K vs H Q E) : spReach K C G vs H Q E0 := by
  obtain ⟨t, ns, rfl, hT, hb, hs, k⟩ := h
  refine ⟨_, _, rfl, dp_I (SqT.of hT), fun z => (by rw [hpsD_of hb] at z; cases z), fun ns' e hb' => ?_⟩
  have e := dI_inj e
  subst e
  exact ⟨fun z => (by rw [hs] at z; cases z), fun _ => ⟨⟨t, rfl, hT⟩, k⟩⟩
section
variable {P : Program} {w : World} {K : PySem.W.Frag} {mg : Str → Option Value} {base : Heap}
abbrev s_check_small : Stmt := top 24
theorem sc_check_small : FnScope ["heaps"] ["heaps"] (defScope s_check_small) := ⟨rfl, rfl, rfl, by decide +kernel, rfl, by decide +kernel, by decide +kernel⟩
theorem ok_check_small {f C G : Addr} {fd : FuncData} (F : Fun K "check_small" "check_small" s_check_small f fd) (T : Tsm mg) (BG : NilX P K mg "TooGreat" G) (C_check_heaps : Cal P w K mg base (L2.CX P w) 3 "check_heaps" ["heaps"] (spChkHeapsD K C)) : FnOk P w K mg base (L2.CX P w) 4 f fd ["heaps"] (spChkSmall K C G) := by
  refine F.okX sc_check_small (fun vs H Q E h => ?_) (fun cdv A outer s H vs Q E hr h => ?_)
  · obtain ⟨v, d, rfl, _⟩ := h
    rfl
  · obtain ⟨v, d, rfl, hd, k1, k2⟩ := h
    refine ⟨_, (pss_cons (ps_expr (pe_cal C_check_heaps hr rfl (passes_call (takes_of rfl rfl rfl rfl) (fun _ _ _ _ h => h)) (pa_cons (pv 0) pa_nil)))
      (pss_one (ps_if (PW.pt (pw_or (pt_cmpR op_gt (pe_callB call_len_seq (by rfl) T.len PySem.boot_len (pa_cons (pv 0) pa_nil)) (pe_gint rfl T.msh) (nomark _)) (pw_or1 (pt_cmpR op_gt (pe_callB (cr_sumT rfl) (by rfl) T.sum (by decide +kernel) (pa_cons (pv 0) pa_nil)) (pe_gint rfl T.gss) (nomark _))))) (pss_one (ps_raise rfl (takes_of rfl rfl rfl rfl) (pmk_nil BG (hr.mono (by decide : 1 ≤ 3)) rfl))) pss_nil))), ?_⟩
    refine ⟨_, rfl, v, d, rfl, hd, fun hg H1 s1 => ?_, fun hg H1 s1 => k1 hg H1 s1⟩
    obtain ⟨ns, rfl, hb⟩ := hpsD_eq hg
    obtain ⟨t, rfl, hS⟩ := dp_dI hd
    obtain ⟨k2, k3⟩ := k2 ns rfl hb
    have S1 := Same.tup s1 hS
    have hsz : ((ns.map V.int).length : Int) = (ns.length : Int) := by rw [List.length_map]
    refine ⟨_, rfl, t, _, rfl, .inr S1, _, _, rfl, rfl, _, rfl, ?_⟩
    unfold smlB at k2 k3
    rw [hsz]
    cases h4 : decide (ns.length ≤ 4) with
    | false =>
      rw [decide_eq_true (show (4 : Int) < (ns.length : Int) by have := of_decide_eq_false h4; omega)]
      exact iteT (k3 (by rw [h4]; rfl) _ s1)
    | true =>
      rw [decide_eq_false (show ¬ (4 : Int) < (ns.length : Int) by have := of_decide_eq_true h4; omega)]
      refine iteF ⟨_, rfl, t, _, rfl, S1, _, _, rfl, rfl, _, rfl, ?_⟩
      cases h40 : decide (ns.sum ≤ 40) with
      | false =>
        rw [decide_eq_true (show (40 : Int) < ns.sum by have := of_decide_eq_false h40; omega)]
        exact iteT (k3 (by rw [h4, h40]; rfl) _ s1)
      | true =>
        rw [decide_eq_false (show ¬ (40 : Int) < ns.sum by have := of_decide_eq_true h40; omega)]
        exact iteF (k2 (by rw [h4, h40]; rfl) _ s1)
end
end Hd
set_option maxHeartbeats 4000000
/-! Games told back from their ends: by rounds as the program does it, by sizes as the law does it. Mathematics alone. -/
namespace Hd.Gm
variable {α : Type} (z : α → Bool) (nx : α → List α)
/-- what a round decides: the length of the game at x, told after s rounds -/
def Lr : Nat → α → Option Nat
  | 0, x => if z x = true then some 0 else none
  | s + 1, x => match Lr s x with
    | some k => some k
    | none => if (s + 1) % 2 = 1 then (if (nx x).any (fun y => decide (Lr s y = some s)) = true then some (s + 1) else none) else (if (nx x).all (fun y => (Lr s y).isSome) = true then some (s + 1) else none)
/-- the law's size of a stand, its next stands' sizes known in part -/
def szL (es : List (Option Nat)) : Nat :=
  match (es.filterMap id).filter (fun e => decide (e % 2 = 0)) with
  | e :: r => r.foldl min e + 1
  | [] => if es.all Option.isSome = true then (match es.filterMap id with
      | e :: r => r.foldl max e + 1
      | [] => 0) else 0
def Cr : Nat → α → Option Nat
  | 0, _ => none
  | s + 1, x => match Cr s x with
    | some k => some k
    | none => if szL ((nx x).map fun y => if z y = true then some 0 else Cr s y) = s + 1 then some (s + 1) else none
variable {z nx}
theorem Lr_le : ∀ {s : Nat} {x : α} {k : Nat}, Lr z nx s x = some k → k ≤ s
  | 0, x, k, h => by
    unfold Lr at h
    split at h
    · cases h; exact Nat.le_refl _
    · cases h
  | s + 1, x, k, h => by
    unfold Lr at h
    split at h
    · rename_i e
      cases h
      exact Nat.le_succ_of_le (Lr_le e)
    · split at h <;> split at h <;> cases h <;> exact Nat.le_refl _
theorem Lr_next {s : Nat} {x : α} {k : Nat} (h : Lr z nx s x = some k) : Lr z nx (s + 1) x = some k := by
  show (match Lr z nx s x with | some k => some k | none => _) = _
  rw [h]
theorem Lr_mono {s t : Nat} {x : α} {k : Nat} (h : Lr z nx s x = some k) (hst : s ≤ t) : Lr z nx t x = some k := by
  induction t with
  | zero =>
    have : s = 0 := by omega
    subst this
    exact h
  | succ t ih =>
    by_cases e : s = t + 1
    · subst e; exact h
    · exact Lr_next (ih (by omega))
/-- decided in its own round, and not before -/
theorem Lr_at : ∀ {s : Nat} {x : α} {k : Nat}, Lr z nx s x = some k → Lr z nx k x = some k
  | 0, x, k, h => by
    have := Lr_le h
    have e : k = 0 := by omega
    subst e
    exact h
  | s + 1, x, k, h => by
    by_cases e : k = s + 1
    · subst e; exact h
    · have hk := Lr_le h
      cases q : Lr z nx s x with
      | some j =>
        have := Lr_next q
        rw [h] at this
        cases this
        exact Lr_at q
      | none =>
        exfalso
        unfold Lr at h
        rw [q] at h
        simp only at h
        split at h <;> split at h <;> cases h <;> exact e rfl
theorem Lr_before {s t : Nat} {x : α} {k : Nat} (h : Lr z nx s x = some k) (ht : t < k) : Lr z nx t x = none := by
  cases q : Lr z nx t x with
  | none => rfl
  | some j =>
    have h1 := Lr_le q
    have h2 := Lr_mono q (Nat.le_of_lt ht)
    rw [Lr_at h] at h2
    cases h2
    omega
/-- an even next stand decides x in the round behind it -/
theorem Lr_odd {s e : Nat} {x y : α} (hy : y ∈ nx x) (h : Lr z nx s y = some e) (he : e % 2 = 0) : ∃ k, k ≤ e + 1 ∧ Lr z nx (e + 1) x = some k := by
  cases q : Lr z nx e x with
  | some k => exact ⟨k, Nat.le_succ_of_le (Lr_le q), Lr_next q⟩
  | none =>
    refine ⟨e + 1, Nat.le_refl _, ?_⟩
    show (match Lr z nx e x with | some k => some k | none => if (e + 1) % 2 = 1 then (if (nx x).any (fun y => decide (Lr z nx e y = some e)) = true then some (e + 1) else none) else _) = _
    rw [q]
    show (if (e + 1) % 2 = 1 then _ else _) = _
    rw [if_pos (by omega), if_pos (List.any_eq_true.mpr ⟨y, hy, decide_eq_true (Lr_at h)⟩)]
theorem Lr_even {s : Nat} {x : α} (hs : s % 2 = 1) (h : ∀ y ∈ nx x, (Lr z nx s y).isSome = true) : ∃ k, k ≤ s + 1 ∧ Lr z nx (s + 1) x = some k := by
  cases q : Lr z nx s x with
  | some k => exact ⟨k, Nat.le_succ_of_le (Lr_le q), Lr_next q⟩
  | none =>
    refine ⟨s + 1, Nat.le_refl _, ?_⟩
    show (match Lr z nx s x with | some k => some k | none => if (s + 1) % 2 = 1 then _ else (if (nx x).all (fun y => (Lr z nx s y).isSome) = true then some (s + 1) else none)) = _
    rw [q]
    show (if (s + 1) % 2 = 1 then _ else _) = _
    rw [if_neg (by omega), if_pos (List.all_eq_true.mpr h)]
/-! ### the law's size -/
theorem fold_min_in : ∀ (r : List Nat) (e : Nat), (r.foldl min e = e ∨ r.foldl min e ∈ r) ∧ r.foldl min e ≤ e ∧ ∀ k ∈ r, r.foldl min e ≤ k
  | [], e => ⟨.inl rfl, Nat.le_refl _, fun k hk => nomatch hk⟩
  | a :: r, e => by
    obtain ⟨h1, h2, h3⟩ := fold_min_in r (min e a)
    rw [List.foldl_cons]
    refine ⟨?_, by omega, fun k hk => ?_⟩
    · rcases h1 with h1 | h1
      · rw [h1]
        by_cases c : e ≤ a
        · exact .inl (Nat.min_eq_left c)
        · exact .inr (by rw [Nat.min_eq_right (by omega)]; exact List.mem_cons_self ..)
      · exact .inr (List.mem_cons_of_mem _ h1)
    · rcases List.mem_cons.mp hk with rfl | hk
      · omega
      · exact h3 k hk
theorem fold_max_in : ∀ (r : List Nat) (e : Nat), (r.foldl max e = e ∨ r.foldl max e ∈ r) ∧ e ≤ r.foldl max e ∧ ∀ k ∈ r, k ≤ r.foldl max e
  | [], e => ⟨.inl rfl, Nat.le_refl _, fun k hk => nomatch hk⟩
  | a :: r, e => by
    obtain ⟨h1, h2, h3⟩ := fold_max_in r (max e a)
    rw [List.foldl_cons]
    refine ⟨?_, by omega, fun k hk => ?_⟩
    · rcases h1 with h1 | h1
      · rw [h1]
        by_cases c : a ≤ e
        · exact .inl (Nat.max_eq_left c)
        · exact .inr (by rw [Nat.max_eq_right (by omega)]; exact List.mem_cons_self ..)
      · exact .inr (List.mem_cons_of_mem _ h1)
    · rcases List.mem_cons.mp hk with rfl | hk
      · omega
      · exact h3 k hk
theorem mem_fm {es : List (Option Nat)} {k : Nat} : k ∈ es.filterMap id ↔ some k ∈ es := by
  rw [List.mem_filterMap]
  exact ⟨fun ⟨a, ha, e⟩ => by rw [show a = some k from e] at ha; exact ha, fun h => ⟨some k, h, rfl⟩⟩
/-- there is an even one: the least of them, and one -/
theorem szL_even {es : List (Option Nat)} {m : Nat} (h : some m ∈ es) (hm : m % 2 = 0) : ∃ e, some e ∈ es ∧ e % 2 = 0 ∧ szL es = e + 1 ∧ ∀ k, some k ∈ es → k % 2 = 0 → e ≤ k := by
  have hmem : ∀ k, k ∈ (es.filterMap id).filter (fun e => decide (e % 2 = 0)) ↔ some k ∈ es ∧ k % 2 = 0 := fun k => by
    rw [List.mem_filter, mem_fm, decide_eq_true_eq]
  unfold szL
  cases q : (es.filterMap id).filter (fun e => decide (e % 2 = 0)) with
  | nil =>
    have := (hmem m).mpr ⟨h, hm⟩
    rw [q] at this
    cases this
  | cons e r =>
    rw [q] at hmem
    obtain ⟨h1, h2, h3⟩ := fold_min_in r e
    have hin : r.foldl min e ∈ e :: r := by
      rcases h1 with h1 | h1
      · rw [h1]; exact List.mem_cons_self ..
      · exact List.mem_cons_of_mem _ h1
    obtain ⟨a1, a2⟩ := (hmem _).mp hin
    refine ⟨r.foldl min e, a1, a2, rfl, fun k hk hk2 => ?_⟩
    rcases List.mem_cons.mp ((hmem k).mpr ⟨hk, hk2⟩) with rfl | z
    · exact h2
    · exact h3 k z
/-- there is no even one -/
theorem szL_odd {es : List (Option Nat)} (h : ∀ k, some k ∈ es → k % 2 = 1) (hne : es ≠ []) :
    (es.all Option.isSome = false → szL es = 0) ∧ (es.all Option.isSome = true → ∃ e, some e ∈ es ∧ szL es = e + 1 ∧ ∀ k, some k ∈ es → k ≤ e) := by
  have hw : (es.filterMap id).filter (fun e => decide (e % 2 = 0)) = [] := by
    rw [List.filter_eq_nil_iff]
    intro k hk
    have := h k (mem_fm.mp hk)
    rw [decide_eq_true_eq]
    omega
  unfold szL
  rw [hw]
  refine ⟨fun c => by simp only [c]; rfl, fun c => ?_⟩
  simp only [c, if_true]
  cases q : es.filterMap id with
  | nil =>
    exfalso
    cases es with
    | nil => exact hne rfl
    | cons a r =>
      have ha := List.all_eq_true.mp c a (List.mem_cons_self ..)
      obtain ⟨k, hk⟩ := Option.isSome_iff_exists.mp ha
      have : k ∈ (a :: r).filterMap id := mem_fm.mpr (by rw [← hk]; exact List.mem_cons_self ..)
      rw [q] at this
      cases this
  | cons e r =>
    obtain ⟨h1, h2, h3⟩ := fold_max_in r e
    have hm : ∀ k, k ∈ e :: r ↔ some k ∈ es := fun k => by rw [← q]; exact mem_fm
    refine ⟨r.foldl max e, (hm _).mp ?_, rfl, fun k hk => ?_⟩
    · rcases h1 with h1 | h1
      · rw [h1]; exact List.mem_cons_self ..
      · exact List.mem_cons_of_mem _ h1
    · rcases List.mem_cons.mp ((hm k).mpr hk) with rfl | z
      · exact h2
      · exact h3 k z
/-- THE TWO ARE ONE: after each round the law knows what the program knows -/
theorem Cr_is {P : α → Prop} (hz : ∀ x, P x → z x = false → nx x ≠ []) (hP : ∀ x, P x → z x = false → ∀ y ∈ nx x, z y = false → P y) : ∀ (s : Nat) (x : α), P x → z x = false → Cr z nx s x = Lr z nx s x
  | 0, x, hp, hx => by
    show none = (if z x = true then some 0 else none)
    rw [if_neg (by rw [hx]; exact Bool.false_ne_true)]
  | s + 1, x, hp, hx => by
    have ih := Cr_is hz hP s
    have hE : ((nx x).map fun y => if z y = true then some 0 else Cr z nx s y) = (nx x).map (Lr z nx s) := by
      refine List.map_congr_left fun y hyx => ?_
      cases hy : z y with
      | true =>
        have h0 : Lr z nx 0 y = some 0 := by
          show (if z y = true then some 0 else none) = _
          rw [if_pos hy]
        rw [Lr_mono h0 (Nat.zero_le s)]
        rfl
      | false =>
        rw [← ih y (hP x hp hx y hyx hy) hy]
        rfl
    have hsub : Cr z nx (s + 1) x = (match Cr z nx s x with | some k => some k | none => if szL ((nx x).map (Lr z nx s)) = s + 1 then some (s + 1) else none) := by
      rw [← hE]
      rfl
    rw [hsub, ih x hp hx]
    cases q : Lr z nx s x with
    | some k => exact (Lr_next q).symm
    | none =>
      have hR : Lr z nx (s + 1) x = if (s + 1) % 2 = 1 then (if (nx x).any (fun y => decide (Lr z nx s y = some s)) = true then some (s + 1) else none) else (if (nx x).all (fun y => (Lr z nx s y).isSome) = true then some (s + 1) else none) := by
        show (match Lr z nx s x with | some k => some k | none => _) = _
        rw [q]
      rw [hR]
      show (if szL ((nx x).map (Lr z nx s)) = s + 1 then some (s + 1) else none) = _
      have hne : (nx x).map (Lr z nx s) ≠ [] := by simpa using hz x hp hx
      have hin : ∀ k, some k ∈ (nx x).map (Lr z nx s) ↔ ∃ y ∈ nx x, Lr z nx s y = some k := fun k => List.mem_map
      -- no even one but s itself
      have hev : ∀ k, some k ∈ (nx x).map (Lr z nx s) → k % 2 = 0 → k = s := fun k hk h2 => by
        obtain ⟨y, hy, e⟩ := (hin k).mp hk
        have hks := Lr_le e
        obtain ⟨j, hj, ej⟩ := Lr_odd hy e h2
        by_cases c : k = s
        · exact c
        · have := Lr_mono ej (show k + 1 ≤ s by omega)
          rw [q] at this
          cases this
      have hall : ((nx x).map (Lr z nx s)).all Option.isSome = (nx x).all (fun y => (Lr z nx s y).isSome) := by
        rw [List.all_map]
        rfl
      by_cases hodd : (s + 1) % 2 = 1
      · rw [if_pos hodd]
        by_cases ha : ∃ y ∈ nx x, Lr z nx s y = some s
        · obtain ⟨y, hy, e⟩ := ha
          obtain ⟨m, m1, m2, m3, _⟩ := szL_even ((hin s).mpr ⟨y, hy, e⟩) (by omega)
          rw [hev m m1 m2] at m3
          rw [if_pos m3, if_pos (List.any_eq_true.mpr ⟨y, hy, decide_eq_true e⟩)]
        · have hany : (nx x).any (fun y => decide (Lr z nx s y = some s)) = false := by
            rw [List.any_eq_false]
            intro y hy c
            exact ha ⟨y, hy, of_decide_eq_true c⟩
          have hno : ∀ k, some k ∈ (nx x).map (Lr z nx s) → k % 2 = 1 := fun k hk => by
            by_cases c : k % 2 = 0
            · obtain ⟨y, hy, e⟩ := (hin k).mp hk
              rw [hev k hk c] at e
              exact absurd ⟨y, hy, e⟩ ha
            · omega
          obtain ⟨d1, d2⟩ := szL_odd hno hne
          rw [hany, if_neg Bool.false_ne_true]
          rw [if_neg]
          intro c
          cases b : ((nx x).map (Lr z nx s)).all Option.isSome with
          | false => rw [d1 b] at c; cases c
          | true =>
            obtain ⟨e, e1, e2, _⟩ := d2 b
            have := hno e e1
            omega
      · rw [if_neg hodd]
        have hno : ∀ k, some k ∈ (nx x).map (Lr z nx s) → k % 2 = 1 := fun k hk => by
          by_cases c : k % 2 = 0
          · have := hev k hk c
            omega
          · omega
        obtain ⟨d1, d2⟩ := szL_odd hno hne
        rw [← hall]
        cases b : ((nx x).map (Lr z nx s)).all Option.isSome with
        | false =>
          rw [d1 b, if_neg (by omega), if_neg Bool.false_ne_true]
        | true =>
          obtain ⟨e, e1, e2, e3⟩ := d2 b
          have he1 := hno e e1
          obtain ⟨y0, hy0, ey0⟩ := (hin e).mp e1
          have hes := Lr_le ey0
          have hse : e = s := by
            by_cases c : e = s
            · exact c
            · exfalso
              -- all were known two rounds ago
              have hk : ∀ y ∈ nx x, (Lr z nx e y).isSome = true := fun y hy => by
                have hb := List.all_eq_true.mp b (Lr z nx s y) (List.mem_map.mpr ⟨y, hy, rfl⟩)
                obtain ⟨k, hk⟩ := Option.isSome_iff_exists.mp hb
                have := e3 k ((hin k).mpr ⟨y, hy, hk⟩)
                rw [Lr_mono (Lr_at hk) this]
                rfl
              obtain ⟨j, _, ej⟩ := Lr_even he1 hk
              have := Lr_mono ej (show e + 1 ≤ s by omega)
              rw [q] at this
              cases this
          rw [e2, hse, if_pos rfl, if_pos rfl]
/-! ### when nothing comes any more -/
theorem Lr_end {x : α} (h : z x = true) (s : Nat) : Lr z nx s x = some 0 := by
  have h0 : Lr z nx 0 x = some 0 := by
    show (if z x = true then some 0 else none) = _
    rw [if_pos h]
  exact Lr_mono h0 (Nat.zero_le s)
/-- a round that decides nothing among the stands of P is the last -/
theorem stable {P : α → Prop} (hz : ∀ x, P x → z x = false → nx x ≠ []) (hP : ∀ x, P x → z x = false → ∀ y ∈ nx x, P y) {s : Nat} (h : ∀ x, P x → Lr z nx (s + 1) x = Lr z nx s x) : ∀ (t : Nat), s ≤ t → ∀ x, P x → Lr z nx t x = Lr z nx s x := by
  intro t
  induction t with
  | zero =>
    intro hst x _
    have : s = 0 := by omega
    rw [this]
  | succ t ih =>
    intro hst x hx
    by_cases e0 : s = t + 1
    · rw [e0]
    have hst' : s ≤ t := by omega
    have ih := ih hst'
    cases q : Lr z nx s x with
    | some k => exact Lr_mono q hst
    | none =>
      by_cases e1 : t = s
      · rw [e1, h x hx, q]
      have hx0 : z x = false := by
        cases c : z x with
        | false => rfl
        | true => rw [Lr_end c s] at q; cases q
      cases r : Lr z nx (t + 1) x with
      | none => rfl
      | some k =>
        exfalso
        have qt : Lr z nx t x = none := by rw [ih x hx, q]
        have qs1 : Lr z nx (s + 1) x = none := by rw [h x hx, q]
        have hR : Lr z nx (t + 1) x = if (t + 1) % 2 = 1 then (if (nx x).any (fun y => decide (Lr z nx t y = some t)) = true then some (t + 1) else none) else (if (nx x).all (fun y => (Lr z nx t y).isSome) = true then some (t + 1) else none) := by
          show (match Lr z nx t x with | some k => some k | none => _) = _
          rw [qt]
        rw [hR] at r
        by_cases c : (t + 1) % 2 = 1
        · rw [if_pos c] at r
          cases a : (nx x).any (fun y => decide (Lr z nx t y = some t)) with
          | false => rw [a] at r; cases r
          | true =>
            obtain ⟨y, hy, ey⟩ := List.any_eq_true.mp a
            have ey := of_decide_eq_true ey
            rw [ih y (hP x hx hx0 y hy)] at ey
            have := Lr_le ey
            omega
        · rw [if_neg c] at r
          cases a : (nx x).all (fun y => (Lr z nx t y).isSome) with
          | false => rw [a] at r; cases r
          | true =>
            have hall : ∀ y ∈ nx x, (Lr z nx s y).isSome = true := fun y hy => by
              rw [← ih y (hP x hx hx0 y hy)]
              exact List.all_eq_true.mp a y hy
            -- no even one
            have hno : ∀ y ∈ nx x, ∀ k, Lr z nx s y = some k → k % 2 = 1 := fun y hy k hk => by
              by_cases c2 : k % 2 = 0
              · obtain ⟨j, hj, ej⟩ := Lr_odd hy hk c2
                have := Lr_mono ej (show k + 1 ≤ s + 1 by have := Lr_le hk; omega)
                rw [qs1] at this
                cases this
              · omega
            by_cases c3 : s % 2 = 1
            · obtain ⟨j, _, ej⟩ := Lr_even c3 hall
              rw [qs1] at ej
              cases ej
            · cases s with
              | zero =>
                obtain ⟨y, ys, hys⟩ := List.exists_cons_of_ne_nil (hz x hx hx0)
                have hy : y ∈ nx x := by rw [hys]; exact List.mem_cons_self ..
                obtain ⟨k, hk⟩ := Option.isSome_iff_exists.mp (hall y hy)
                have := hno y hy k hk
                have := Lr_le hk
                omega
              | succ s =>
                have hall' : ∀ y ∈ nx x, (Lr z nx s y).isSome = true := fun y hy => by
                  obtain ⟨k, hk⟩ := Option.isSome_iff_exists.mp (hall y hy)
                  have h1 := hno y hy k hk
                  have h2 := Lr_le hk
                  rw [Lr_mono (Lr_at hk) (show k ≤ s by omega)]
                  rfl
                obtain ⟨j, _, ej⟩ := Lr_even (show s % 2 = 1 by omega) hall'
                rw [q] at ej
                cases ej
/-- how many of D are decided -/
def cnt (z : α → Bool) (nx : α → List α) (D : List α) (s : Nat) : Nat := (D.filter fun x => (Lr z nx s x).isSome).length
theorem filter_len_le {p q : α → Bool} : ∀ (D : List α), (∀ x ∈ D, p x = true → q x = true) → (D.filter p).length ≤ (D.filter q).length ∧ ((D.filter p).length = (D.filter q).length → ∀ x ∈ D, q x = true → p x = true)
  | [], _ => ⟨Nat.le_refl _, fun _ x hx => nomatch hx⟩
  | a :: D, h => by
    obtain ⟨h1, h2⟩ := filter_len_le D fun x hx => h x (List.mem_cons_of_mem _ hx)
    cases hp : p a with
    | true =>
      have hq := h a (List.mem_cons_self ..) hp
      rw [List.filter_cons_of_pos hp, List.filter_cons_of_pos hq, List.length_cons, List.length_cons]
      refine ⟨by omega, fun e x hx hqx => ?_⟩
      rcases List.mem_cons.mp hx with rfl | hx
      · exact hp
      · exact h2 (by omega) x hx hqx
    | false =>
      rw [List.filter_cons_of_neg (by rw [hp]; exact Bool.false_ne_true)]
      cases hq : q a with
      | true =>
        rw [List.filter_cons_of_pos hq, List.length_cons]
        exact ⟨by omega, fun e => by omega⟩
      | false =>
        rw [List.filter_cons_of_neg (by rw [hq]; exact Bool.false_ne_true)]
        refine ⟨h1, fun e x hx hqx => ?_⟩
        rcases List.mem_cons.mp hx with rfl | hx
        · rw [hq] at hqx; cases hqx
        · exact h2 e x hx hqx
theorem cnt_step (D : List α) (s : Nat) : cnt z nx D s ≤ cnt z nx D (s + 1) ∧ (cnt z nx D s = cnt z nx D (s + 1) → ∀ x ∈ D, Lr z nx (s + 1) x = Lr z nx s x) := by
  have hs : ∀ x ∈ D, (Lr z nx s x).isSome = true → (Lr z nx (s + 1) x).isSome = true := fun x _ h => by
    obtain ⟨k, hk⟩ := Option.isSome_iff_exists.mp h
    rw [Lr_next hk]
    rfl
  obtain ⟨h1, h2⟩ := filter_len_le D hs
  refine ⟨h1, fun e x hx => ?_⟩
  cases q : Lr z nx s x with
  | some k => rw [Lr_next q]
  | none =>
    cases r : Lr z nx (s + 1) x with
    | none => rfl
    | some k =>
      have := h2 e x hx (by rw [r]; rfl)
      rw [q] at this
      cases this
/-- there is such a last round, and early -/
theorem last_round (D : List α) : ∃ s, s ≤ D.length ∧ ∀ x ∈ D, Lr z nx (s + 1) x = Lr z nx s x := by
  have key : ∀ n : Nat, (∃ s, s ≤ n ∧ ∀ x ∈ D, Lr z nx (s + 1) x = Lr z nx s x) ∨ n + 1 ≤ cnt z nx D (n + 1) := by
    intro n
    induction n with
    | zero =>
      obtain ⟨h1, h2⟩ := cnt_step (z := z) (nx := nx) D 0
      by_cases e : cnt z nx D 0 = cnt z nx D (0 + 1)
      · exact .inl ⟨0, Nat.le_refl _, h2 e⟩
      · exact .inr (by omega)
    | succ n ih =>
      rcases ih with ⟨s, hs, h⟩ | ih
      · exact .inl ⟨s, by omega, h⟩
      · obtain ⟨h1, h2⟩ := cnt_step (z := z) (nx := nx) D (n + 1)
        by_cases e : cnt z nx D (n + 1) = cnt z nx D (n + 1 + 1)
        · exact .inl ⟨n + 1, Nat.le_refl _, h2 e⟩
        · exact .inr (by omega)
  rcases key D.length with h | h
  · exact h
  · have : cnt z nx D (D.length + 1) ≤ D.length := List.length_filter_le _ _
    omega
end Hd.Gm
set_option maxHeartbeats 4000000
/-! The rounds of the game as the program's dict tells them. -/
namespace Hd
open Gm
def z0 (x : Stn) : Bool := decide ((0 : Int) ∈ x)
abbrev LrS := Lr z0 nxS
/-- what round t decides -/
def decR (R : List Stn) (t : Nat) : List Stn := R.filter fun x => decide (LrS t x = some t)
/-- what is known ahead of round s -/
def mS (R : List Stn) (s : Nat) : List (Stn × Nat) := (List.range s).flatMap fun t => (decR R t).map fun x => (x, t)
theorem any_congr' {α : Type} {p q : α → Bool} : ∀ {l : List α}, (∀ y ∈ l, p y = q y) → l.any p = l.any q
  | [], _ => rfl
  | a :: l, h => by rw [List.any_cons, List.any_cons, h a List.mem_cons_self, any_congr' fun y hy => h y (List.mem_cons_of_mem _ hy)]
theorem all_congr' {α : Type} {p q : α → Bool} : ∀ {l : List α}, (∀ y ∈ l, p y = q y) → l.all p = l.all q
  | [], _ => rfl
  | a :: l, h => by rw [List.all_cons, List.all_cons, h a List.mem_cons_self, all_congr' fun y hy => h y (List.mem_cons_of_mem _ hy)]
theorem mS_succ (R : List Stn) (s : Nat) : mS R (s + 1) = mS R s ++ (decR R s).map fun x => (x, s) := by
  unfold mS
  rw [List.range_succ, List.flatMap_append]
  simp
theorem mem_mS {R : List Stn} {x : Stn} {k : Nat} : ∀ {s : Nat}, (x, k) ∈ mS R s ↔ k < s ∧ x ∈ R ∧ LrS k x = some k
  | 0 => by simp [mS]
  | s + 1 => by
    rw [mS_succ, List.mem_append, mem_mS (s := s)]
    constructor
    · rintro (⟨a, b, c⟩ | h)
      · exact ⟨by omega, b, c⟩
      · obtain ⟨y, hy, e⟩ := List.mem_map.mp h
        cases e
        obtain ⟨h1, h2⟩ := List.mem_filter.mp hy
        exact ⟨by omega, h1, of_decide_eq_true h2⟩
    · rintro ⟨a, b, c⟩
      by_cases e : k = s
      · subst e
        exact .inr (List.mem_map.mpr ⟨x, List.mem_filter.mpr ⟨b, decide_eq_true c⟩, rfl⟩)
      · exact .inl ⟨by omega, b, c⟩
theorem key_mS {R : List Stn} {x : Stn} {s : Nat} : x ∈ (mS R s).map (·.1) ↔ ∃ k, k < s ∧ x ∈ R ∧ LrS k x = some k := by
  constructor
  · intro h
    obtain ⟨⟨y, k⟩, hq, rfl⟩ := List.mem_map.mp h
    exact ⟨k, mem_mS.mp hq⟩
  · rintro ⟨k, h⟩
    exact List.mem_map.mpr ⟨(x, k), mem_mS.mpr h, rfl⟩
theorem Lr_one {x : Stn} {k l : Nat} (h : LrS k x = some k) (h' : LrS l x = some l) : k = l := by
  rcases Nat.le_total k l with e | e
  · have := Lr_mono h e
    exact Option.some.inj (this.symm.trans h')
  · have := Lr_mono h' e
    exact Option.some.inj (h.symm.trans this)
theorem nd_mS {R : List Stn} (nd : R.Nodup) : ∀ s, ((mS R s).map (·.1)).Nodup
  | 0 => by simp [mS]
  | s + 1 => by
    rw [mS_succ, List.map_append, List.nodup_append]
    refine ⟨nd_mS nd s, ?_, ?_⟩
    · rw [List.map_map]
      have : ((fun x : Stn × Nat => x.1) ∘ fun x : Stn => (x, s)) = id := rfl
      rw [this, List.map_id]
      exact nd.filter _
    · intro x hx y hy e
      subst e
      obtain ⟨k, hk, _, hl⟩ := key_mS.mp hx
      rw [List.map_map] at hy
      obtain ⟨y, hy, e⟩ := List.mem_map.mp hy
      have e : y = x := e
      rw [← e] at hl
      have h2 := (List.mem_filter.mp (show y ∈ R.filter (fun x => decide (LrS s x = some s)) from hy)).2
      have := Lr_one hl (of_decide_eq_true h2)
      omega
theorem mS_sub {R : List Stn} {s : Nat} {x : Stn} (h : x ∈ (mS R s).map (·.1)) : x ∈ R := by
  obtain ⟨k, _, hR, _⟩ := key_mS.mp h
  exact hR
theorem mS_le {R : List Stn} (nd : R.Nodup) (s : Nat) : (mS R s).length ≤ R.length := by
  have := nodup_le (nd_mS nd s) fun x hx => mS_sub hx
  rw [List.length_map] at this
  exact this
/-- the dict told ahead of round s + 1: the rounds up to s -/
theorem look_mS {R : List Stn} (nd : R.Nodup) {s : Nat} {x : Stn} (hx : x ∈ R) : lookA (mS R (s + 1)) x = LrS s x := by
  cases h : LrS s x with
  | some k =>
    have hk := Lr_le h
    exact lookA_at (nd_mS nd _) (mem_mS.mpr ⟨by omega, hx, Lr_at h⟩)
  | none =>
    refine lookA_none.mpr fun z => ?_
    obtain ⟨k, hk, _, hl⟩ := key_mS.mp z
    have := Lr_mono hl (show k ≤ s by omega)
    cases h.symm.trans this
theorem in_mS {R : List Stn} (nd : R.Nodup) {s : Nat} {x : Stn} (hx : x ∈ R) : x ∈ (mS R (s + 1)).map (·.1) ↔ (LrS s x).isSome = true := by
  rw [← look_mS nd hx]
  constructor
  · intro h
    cases e : lookA (mS R (s + 1)) x with
    | some k => rfl
    | none => exact absurd h (lookA_none.mp e)
  · intro h
    refine Decidable.byContradiction fun z => ?_
    rw [lookA_none.mpr z] at h
    cases h
/-- the next round -/
theorem decR_next {R : List Stn} (nd : R.Nodup) (cl : ∀ x ∈ R, ∀ y ∈ nxS x, y ∈ R) (s : Nat) (f : Stn → List Stn) (hf : ∀ x ∈ R, f x = nxS x) (g : Stn → Bool)
    (hg : ∀ x, g x = if (s + 1) % 2 = 1 then (f x).any (fun y => decide (lookA (mS R (s + 1)) y = some (s + 1 - 1))) else (f x).all fun y => decide (y ∈ (mS R (s + 1)).map (·.1))) :
    (R.filter fun x => decide (x ∉ (mS R (s + 1)).map (·.1))).filter g = decR R (s + 1) := by
  unfold decR
  rw [List.filter_filter]
  refine List.filter_congr fun x hx => ?_
  have e1 : decide (x ∉ (mS R (s + 1)).map (·.1)) = (LrS s x).isNone := by
    rw [Bool.eq_iff_iff, decide_eq_true_eq, in_mS nd hx]
    cases LrS s x <;> simp
  have e2 : g x = if (s + 1) % 2 = 1 then (nxS x).any (fun y => decide (LrS s y = some s)) else (nxS x).all (fun y => (LrS s y).isSome) := by
    rw [hg, hf x hx]
    by_cases h : (s + 1) % 2 = 1
    · rw [if_pos h, if_pos h]
      refine any_congr' fun y hy => ?_
      rw [look_mS nd (cl x hx y hy)]
      rfl
    · rw [if_neg h, if_neg h]
      refine all_congr' fun y hy => ?_
      rw [Bool.eq_iff_iff, decide_eq_true_eq, in_mS nd (cl x hx y hy)]
  rw [e1, e2]
  show _ = decide ((match Lr z0 nxS s x with | some k => some k | none => _) = some (s + 1))
  cases h : LrS s x with
  | some k =>
    have hk := Lr_le h
    rw [show Lr z0 nxS s x = some k from h]
    simp
    omega
  | none =>
    rw [show Lr z0 nxS s x = none from h]
    by_cases h1 : (s + 1) % 2 = 1
    · simp only [if_pos h1]
      cases (nxS x).any fun y => decide (LrS s y = some s) <;> simp
    · simp only [if_neg h1]
      cases (nxS x).all fun y => (LrS s y).isSome <;> simp
theorem fnd_mono {ns : Stn} {i j : Nat} (h : i ≤ j) {x : Stn} (hx : x ∈ fnd ns i) : x ∈ fnd ns j := by
  induction h with
  | refl => exact hx
  | step _ ih =>
    rw [fnd_succ]
    exact List.mem_append_left _ ih
theorem fnd_front {ns : Stn} {x : Stn} : ∀ {i : Nat}, x ∈ fnd ns i → ∃ j, j ≤ i ∧ x ∈ (frn ns j).map (·.1)
  | 0, h => ⟨0, Nat.le_refl _, by simpa [fnd, frn, stA] using h⟩
  | i + 1, h => by
    rw [fnd_succ] at h
    rcases List.mem_append.mp h with z | z
    · obtain ⟨j, hj, q⟩ := fnd_front z
      exact ⟨j, by omega, q⟩
    · exact ⟨i + 1, Nat.le_refl _, z⟩
/-- one step more leads nowhere else -/
theorem fnd_closed {ns : Stn} {n : Nat} (F : Frs ns n) : ∀ x ∈ fnd ns n, ∀ y ∈ nxS x, y ∈ fnd ns n := by
  intro x hx y hy
  obtain ⟨j, hj, hq⟩ := fnd_front hx
  have hjn : j < n := by
    refine Nat.lt_of_le_of_ne hj fun e => ?_
    subst e
    rw [F.last] at hq
    cases hq
  by_cases hin : y ∈ fnd ns j
  · exact fnd_mono hj hin
  · have h2 := mem_frn.mpr ⟨⟨x, hq, hy⟩, hin⟩
    refine fnd_mono (show j + 1 ≤ n by omega) ?_
    rw [fnd_succ]
    exact List.mem_append_right _ h2
/-- the first round without news -/
structure Lst (R : List Stn) (S : Nat) : Prop where
  last : decR R S = []
  more : ∀ t, t < S → decR R t ≠ []
theorem lst_is {R : List Stn} (nd : R.Nodup) : ∃ S, S ≤ R.length ∧ Lst R S := by
  have ex : ∃ t, t ≤ R.length ∧ decR R t = [] := by
    refine Decidable.byContradiction fun z => ?_
    have grow : ∀ s, s ≤ R.length + 1 → s ≤ (mS R s).length := by
      intro s
      induction s with
      | zero => intro _; omega
      | succ s ih =>
        intro hs
        have h1 := ih (by omega)
        have h2 : decR R s ≠ [] := fun e => z ⟨s, by omega, e⟩
        have h3 := List.length_pos_iff.mpr h2
        rw [mS_succ, List.length_append, List.length_map]
        omega
    have := grow (R.length + 1) (Nat.le_refl _)
    have := mS_le nd (R.length + 1)
    omega
  obtain ⟨t, ht, he⟩ := ex
  obtain ⟨n, h1, h2, h3⟩ := least (p := fun t => decR R t = []) t he
  exact ⟨n, by omega, h2, h3⟩
end Hd
set_option maxHeartbeats 8000000
/-! Words and rules that the later texts share: blocks in blocks, lists of tuples, bools. -/
namespace Hd
open PySem PySem.Spec PyProof.Rows L2
/-- a block within a block -/
theorem relabel_kept {env : Env} : ∀ {names : List (Str × NameKind)} {x : Str}, (names.lookup x = some .cell ∨ names.lookup x = some .free) →
    ((names.map fun (n, k) => if (k == NameKind.free && env.scope.kind == .function && env.kindOf n == some .cell) then (n, NameKind.cell) else (n, k)).lookup x = some .cell ∨
     (names.map fun (n, k) => if (k == NameKind.free && env.scope.kind == .function && env.kindOf n == some .cell) then (n, NameKind.cell) else (n, k)).lookup x = some .free)
  | [], _, h => by simp at h
  | (n, k) :: r, x, h => by
    rw [List.map_cons]
    by_cases hc : (k == NameKind.free && env.scope.kind == .function && env.kindOf n == some .cell) = true
    · simp only [if_pos hc, List.lookup_cons] at h ⊢
      cases hx : x == n with
      | true => simp
      | false =>
        simp only [hx] at h ⊢
        exact relabel_kept h
    · simp only [if_neg hc, List.lookup_cons] at h ⊢
      cases hx : x == n with
      | true =>
        simp only [hx] at h ⊢
        exact h
      | false =>
        simp only [hx] at h ⊢
        exact relabel_kept h
theorem blkOk_in {N : List Str} {sc scope : Scope} {own : List (Str × Nat)} {cl : List (Str × Addr)} {C : Addr} {E : Env} (h : blkC N sc scope own = true) : BlkOk N (compEnvC sc cl C E).scope scope own := by
  obtain ⟨h1, h2, h3, h4, h5⟩ := blkOk_by h
  exact ⟨h1, h2, h3, fun y hy e => relabel_kept (h4 y hy e), h5⟩
theorem cr_anyK {X : Cx} {K : PySem.W.Frag} (e : X.K = K) (hc : X.calm = true) : CallR X (.builtin "any") (rAny K) := by
  subst e
  exact cr_any hc
theorem cr_allK {X : Cx} {K : PySem.W.Frag} (e : X.K = K) (hc : X.calm = true) : CallR X (.builtin "all") (rAll K) := by
  subst e
  exact cr_all hc
theorem op_in_seqK {X : Cx} {K : PySem.W.Frag} (q : X.K = K) : OpR X (compareOp .In) (rIn K false) := by
  subst q
  exact op_in_seq
theorem pi_listK {X : Cx} {K : PySem.W.Frag} {tg e : Expr} {t : TE} (q : X.K = K) (h : PE X e t) : PI X tg e (iList K t) := by
  subst q
  exact pi_list h
theorem flat_ints (ns : List Int) : (ns.map V.int).all flatV = true := by
  rw [List.all_map]
  exact List.all_eq_true.mpr fun x _ => rfl
theorem inV_ints {z : Int} {ns : List Int} : inV (.int z) (ns.map V.int) = decide (z ∈ ns) := by
  unfold inV
  rw [List.any_map, Bool.eq_iff_iff, List.any_eq_true, decide_eq_true_eq]
  constructor
  · rintro ⟨x, hx, e⟩
    have e2 : x = z := by simpa [eqV] using e
    exact e2 ▸ hx
  · exact fun h => ⟨z, h, by simp [eqV]⟩
abbrev IntIs (v : V) (k : Nat) : Prop := v = .int (k : Int)
/-- the list of what is a step behind -/
def RowsAt (K : PySem.W.Frag) (H : Hp) (v : V) (ys : List Stn) : Prop := ∃ (l : Addr) (hs : List Hrow), v = .ref l ∧ H l = some (.lst (hs.map fun p => V.ref p.1)) ∧ (∀ p ∈ hs, H p.1 = some (.tup (p.2.map V.int))) ∧ hs.map (·.2) = ys
theorem RowsAt.same {K : PySem.W.Frag} {H H' : Hp} {v : V} {ys : List Stn} (s : Same H H') (h : RowsAt K H v ys) : RowsAt K H' v ys := by
  obtain ⟨l, hs, a, b, c, d⟩ := h
  exact ⟨l, hs, a, s _ _ b, fun p hp => s _ _ (c p hp), d⟩
/-- a list of one's own at D that is filled with tuples -/
structure TL (H0 H : Hp) (D : Addr) (hs : List Hrow) : Prop where
  nw : H0 D = none
  ls : H D = some (.lst (hs.map fun p => V.ref p.1))
  st : ∀ p ∈ hs, H p.1 = some (.tup (p.2.map V.int))
  sm : Same H0 H
theorem TL.new {H : Hp} {D : Addr} (h : H D = none) : TL H (upd H D (.lst [])) D [] := ⟨h, upd_same, fun p hp => (nomatch hp), Same.new h⟩
theorem TL.mono {H0 H H' : Hp} {D : Addr} {hs : List Hrow} (s : Same H H') (h : TL H0 H D hs) : TL H0 H' D hs := ⟨h.nw, s _ _ h.ls, fun p hp => s _ _ (h.st p hp), h.sm.trans s⟩
theorem TL.push {H0 H : Hp} {D q : Addr} {hs : List Hrow} {y : Stn} (h : TL H0 H D hs) (hq : H q = some (.tup (y.map V.int))) : TL H0 (upd H D (.lst (hs.map (fun p => V.ref p.1) ++ [V.ref q]))) D (hs ++ [(q, y)]) := by
  refine ⟨h.nw, by rw [upd_same, List.map_append]; rfl, fun z hz => ?_, same_upd h.sm h.nw⟩
  rcases List.mem_append.mp hz with hz | hz
  · have e := h.st z hz
    rw [upd_ne (ne_of e h.ls (by intro z; cases z))]
    exact e
  · rw [List.mem_singleton.mp hz, upd_ne (ne_of hq h.ls (by intro z; cases z))]
    exact hq
theorem lookA_map {β : Type} {R : List Stn} {f : Stn → β} {y : Stn} (h : y ∈ R) : lookA (R.map fun x => (x, f x)) y = some (f y) := by
  induction R with
  | nil => cases h
  | cons a R ih =>
    unfold lookA at ih ⊢
    rw [List.map_cons, List.find?_cons]
    by_cases e : a = y
    · rw [decide_eq_true e, e]
      rfl
    · rw [decide_eq_false e]
      rcases List.mem_cons.mp h with z | z
      · exact absurd z.symm e
      · exact ih z
def tTruL (K : PySem.W.Frag) (te : TE) : TT := fun σ H Q => te σ H fun x H' => ∃ k, TruV K x H' k ∧ Q k H'
theorem pt_truL {X : Cx} {a : Expr} {ta : TE} (ha : PE X a ta) (he : ∀ whole, isTrue a X.env whole = (do let v ← whole; standAt a.pos; holding [v] (truthy v)) := by intro _; rfl) : PT X a (tTruL X.K ta) := pt_truth ha he
/-- what is not touched keeps the lists of tuples -/
theorem RowsAt.but {K : PySem.W.Frag} {H H' : Hp} {D : Addr} {o : HO} {v : V} {ys : List Stn} (hD : H D = some o) (n1 : ∀ xs, o ≠ .lst xs) (n2 : ∀ xs, o ≠ .tup xs) (k : ∀ b u, b ≠ D → H b = some u → H' b = some u) (h : RowsAt K H v ys) : RowsAt K H' v ys := by
  obtain ⟨l, hs, a, b, c, d⟩ := h
  exact ⟨l, hs, a, k _ _ (ne_of b hD fun z => n1 _ z.symm) b, fun p hp => k _ _ (ne_of (c p hp) hD fun z => n2 _ z.symm) (c p hp), d⟩
theorem nxS_short {L : Nat} {S : Int} {x : Stn} (h : Bx L S x) (hL : L ≤ 6) : (nxS x).length ≤ 36 := by
  unfold nxS due
  rw [List.length_map]
  exact Nat.le_trans (List.length_filter_le _ _) (prs_short (by rw [h.1]; exact hL))
theorem tyes {σ : L2.St} {H : Hp} {Q : Bool → Hp → Prop} (h : Q true H) : tYes σ H Q := h
theorem nu_of {H H' : Hp} {p : Addr} (n : NX H H') (h : H' p = none) : Nu H p := by
  intro u e
  cases u with
  | ext φ => exact ⟨φ, rfl⟩
  | _ =>
    have e2 := n p _ (by intro φ z; cases z) e
    rw [h] at e2
    cases e2
theorem frs_one {ns : Stn} {n m : Nat} (a : Frs ns n) (b : Frs ns m) : n = m := by
  rcases Nat.lt_trichotomy n m with h | h | h
  · exact absurd a.last (b.more n h)
  · exact h
  · exact absurd b.last (a.more m h)
theorem none_back {H H' : Hp} {D : Addr} (s : Same H H') (h : H' D = none) : H D = none := by
  cases e : H D with
  | none => rfl
  | some o => exact absurd (s _ _ e) (by rw [h]; intro z; cases z)
/-- the bools that a comprehension over a list of tuples gives -/
theorem lc_bools {K : PySem.W.Frag} {a : Addr} {hs : List Hrow} {g : TG} {te : TE} {vs : List Nat} {σ : L2.St} {H1 : Hp} {D : Addr} {Q : Hp → Prop} (p : Stn → Bool) (hD : H1 D = none) (hl : H1 a = some (.lst (hs.map fun q => V.ref q.1))) (hst : ∀ q ∈ hs, H1 q.1 = some (.tup (q.2.map V.int))) (hz : hs.length < sizeLine)
    (hs' : ∀ (q : Addr) (y : Stn) (H : Hp) (Q' : VK), Same H1 H → H q = some (.tup (y.map V.int)) → Q' (.bl (p y)) H → g (.ref q) (wipe σ vs) H fun σ2 H2 => wipe σ2 vs = wipe σ vs ∧ te σ2 H2 Q')
    (hd : ∀ H, Same H1 H → H D = some (.lst (((hs.map (·.2)).map p).map V.bl)) → Q H) :
    ∃ W : Nat → Nat → Hp → Prop, (∃ m, W 0 m (upd H1 D (.lst []))) ∧ ∀ i m H, W i m H →
      ((Itl K a).stop i H ∧ Q H) ∨ ((Itl K a).go i H ∧ ∃ Nx : Hp → Prop, (∀ H', Nx H' → ∃ m', m' < m ∧ W (i + 1) m' H') ∧ ∀ x H', (Itl K a).yld i H x H' → g x (wipe σ vs) H' fun σ2 H2 => wipe σ2 vs = wipe σ vs ∧ tYes σ2 H2 fun b H3 =>
        if b = true then te σ2 H3 fun y H4 => ∃ acc, H4 D = some (.lst acc) ∧ acc.length < sizeLine ∧ Nx (upd H4 D (.lst (acc ++ [y]))) else Nx H3) := by
  refine lc_list (K := K) (a := a) (xs := hs.map fun q => V.ref q.1) (fun j H => H D = some (.lst ((((hs.map (·.2)).take j).map p).map V.bl)) ∧ Same H1 H) ⟨by rw [upd_same]; rfl, Same.new hD⟩ (fun j H _ q => SqL.of (q.2 _ _ hl)) ?_ ?_
  · rintro j x H hx ⟨hL, s1⟩
    rw [List.getElem?_map] at hx
    obtain ⟨q, hq, rfl⟩ := Option.map_eq_some_iff.mp hx
    have hm := List.mem_of_getElem? hq
    have e2 : (hs.map (·.2))[j]? = some q.2 := by rw [List.getElem?_map, hq]; rfl
    have z := hs' q.1 q.2 H (fun y H4 => ∃ acc, H4 D = some (.lst acc) ∧ acc.length < sizeLine ∧ (fun H => H D = some (.lst ((((hs.map (·.2)).take (j + 1)).map p).map V.bl)) ∧ Same H1 H) (upd H4 D (.lst (acc ++ [y])))) s1 (s1 _ _ (hst q hm)) ⟨_, hL, ?_, ?_, same_upd s1 hD⟩
    · exact z
    · rw [List.length_map, List.length_map, List.length_take, List.length_map]
      omega
    · rw [upd_same, List.take_add_one, e2]
      simp
  · rintro H ⟨hL, s1⟩
    rw [List.length_map] at hL
    exact hd H s1 (by rw [List.take_of_length_le (by rw [List.length_map]; exact Nat.le_refl _)] at hL; exact hL)
end Hd
set_option maxHeartbeats 8000000
/-! Small heaps: how soon one is empty. -/
namespace Hd
open PySem PySem.Spec PyProof.Rows L2
/-- a front with an empty heap -/
def zer (ns : Stn) (i : Nat) : Bool := ((frn ns i).map (·.1)).any z0
/-- the first front with an empty heap, among n -/
def few0 (ns : Stn) (n : Nat) : Option Nat := (List.range n).find? (zer ns)
def oNat : Option Nat → V
  | none => .non
  | some k => .int (k : Int)
theorem few0_some {ns : Stn} {n i : Nat} (hi : i < n) (hz : zer ns i = true) (hb : ∀ j, j < i → zer ns j = false) : few0 ns n = some i := by
  unfold few0
  induction n with
  | zero => omega
  | succ n ih =>
    rw [List.range_succ, List.find?_append]
    by_cases e : i < n
    · rw [ih e]; rfl
    · have : i = n := by omega
      subst this
      have h0 : (List.range i).find? (zer ns) = none := List.find?_eq_none.mpr fun j hj => by
        rw [hb j (List.mem_range.mp hj)]; decide
      rw [h0]
      simp [hz]
theorem few0_none {ns : Stn} {n : Nat} (hb : ∀ j, j < n → zer ns j = false) : few0 ns n = none := List.find?_eq_none.mpr fun j hj => by
  rw [hb j (List.mem_range.mp hj)]; decide
def spFewest (K : PySem.W.Frag) (C G : Addr) : Sp := fun vs H Q E => ∃ (v : V) (d : PyData), vs = [v] ∧ Dp K H v d ∧ (hpsD d = false → ∀ H', Same H H' → E (.ref C) none H') ∧
  ∀ ns, d = dI ns → hpsB ns = true → (smlB ns = false → ∀ H', Same H H' → E (.ref G) none H') ∧
    (smlB ns = true → (∃ t, v = .ref t ∧ H t = some (.tup (ns.map V.int))) ∧ ∀ n, Frs ns n → ∀ (H' : Hp), NX H H' → Q (oNat (few0 ns n)) H')
section
variable {P : Program} {w : World} {K : PySem.W.Frag} {mg : Str → Option Value} {base : Heap}
abbrev s_fewest : Stmt := top 23
theorem sc_fewest : FnScope ["heaps", "many", "front", "stand"] ["heaps"] (defScope s_fewest) := ⟨rfl, rfl, rfl, by decide +kernel, rfl, by decide +kernel, by decide +kernel⟩
theorem ok_fewest {f C G : Addr} {fd : FuncData} (F : Fun K "fewest" "fewest" s_fewest f fd) (T : Tsm mg) (C_check_small : Cal P w K mg base (L2.CX P w) 4 "check_small" ["heaps"] (spChkSmall K C G)) (C_fronts : CalG P w K mg base 4 "fronts" ["heaps"] (spFronts K)) : FnOk P w K mg base (L2.CX P w) 7 f fd ["heaps"] (spFewest K C G) := by
  refine F.okX sc_fewest (fun vs H Q E h => ?_) (fun cdv A outer s H vs Q E hr h => ?_)
  · obtain ⟨v, d, rfl, _⟩ := h
    rfl
  · obtain ⟨v, d, rfl, hd, k1, k2⟩ := h
    refine ⟨_, (pss_cons (ps_expr (pe_cal C_check_small hr rfl (passes_call (takes_of rfl rfl rfl rfl) (fun _ _ _ _ h => h)) (pa_cons (pv 0) pa_nil)))
      (pss_cons (ps_forE (passes_of rfl) hr (by rfl) T.enumerate (pgm_cal C_fronts (hr.mono (by decide)) (by rfl) (pa_cons (pv 0) pa_nil)) (pg_tup rfl (pgs_cons (pg_name (i := 1) sc_fewest.nd rfl (Or.inl rfl)) (pgs_cons (pg_name (i := 2) sc_fewest.nd rfl (Or.inl rfl)) pgs_nil)))
      (pss_one (ps_if (pt_val (pe_callB (cr_any rfl) (by rfl) T.any (by decide +kernel) (pa_cons (pe_lc (own := [("stand", 3)]) (g := gName 3) (by rfl) sc_fewest.nd (pi_keys (pv 2)) (blkOk_by (own := [("stand", 3)]) (N := ["heaps", "many", "front", "stand"]) (sc := defScope s_fewest) (by decide +kernel)) (fun _ _ _ _ _ => pg_name (i := 3) sc_fewest.nd rfl (Or.inl rfl)) (fun _ _ _ _ _ => pts_nil) (fun _ _ _ _ _ => (pe_cmpR (op_in_seqK (K := K) rfl) pe_int (pv 3) (by rfl)))) pa_nil))) (pss_one (ps_ret (pv 1))) pss_nil)))
      (pss_one (ps_ret pe_non)))), ?_⟩
    refine ⟨_, rfl, v, d, rfl, hd, fun hg H1 s1 => k1 hg H1 s1, fun ns e hb => ⟨fun hs H1 s1 => ?_, fun hs H1 s1 => (k2 ns e hb).1 hs H1 s1⟩⟩
    obtain ⟨⟨t, rfl, hT⟩, k3⟩ := (k2 ns e hb).2 hs
    obtain ⟨hB, hpos⟩ := hps_bx hb
    obtain ⟨hS1, hS2, hS3⟩ := sml_room hb hs
    obtain ⟨n, _, hF⟩ := frs_is hB
    have T1 := s1 _ _ hT
    refine ⟨_, rfl, frG K ns H1, n, ⟨t, ns, ns.length, ns.sum.toNat, rfl, T1, hB, by omega, hS1, hF, rfl⟩, fun ga H2 s2 news2 => ⟨[], (fun b hb => nomatch hb), fun i σ H3 => (∃ x1 x2 x3 : Option V, σ = [some (.ref t), x1, x2, x3]) ∧ NX H1 H3 ∧ ∀ j, j < i → zer ns j = false, ⟨⟨none, none, none, rfl⟩, NX.of s2, fun j hj => absurd hj (Nat.not_lt_zero j)⟩, ?_, ?_⟩⟩
    · rintro i σ H3 hi ⟨⟨x1, x2, x3, rfl⟩, n3, hb3⟩ x Hw Hi H4 TT nw ⟨p, fa, o, kr, rfl, hp, hmr, hfM, hf0, hfw, hkeep⟩ ni hTT
      have hp4 := ni p _ (by intro φ z; cases z) hp
      have n4 := nx_turn n3 nw hf0 hkeep ni
      refine ⟨TT, _, rfl, SqT.of upd_same, rfl, _, _, rfl, _, _, rfl, rfl, ?_⟩
      have hp5 : (upd H4 TT (.tup [.int (i : Nat), .ref p])) p = some (.frz o (.dT kr)) := by rw [upd_ne (ne_of_none hp4 hTT)]; exact hp4
      have n5 := n4.then (NX.of (Same.new (o := .tup [.int (i : Nat), .ref p]) hTT))
      have s45 : Same (upd H4 TT (.tup [.int (i : Nat), .ref p])) (upd H4 TT (.tup [.int (i : Nat), .ref p])) := Same.refl _
      generalize hH5 : upd H4 TT (.tup [.int (i : Nat), .ref p]) = H5 at hp5 n5 ⊢
      refine ⟨_, rfl, p, o, rfl, .inr ⟨kr, hp5, fun D hD => lc_it (walk_keysT (d := p) (o := o) (kvs := kr)) (fun j H6 => H6 D = some (.lst (((((frn ns i).map (·.1)).take j).map z0).map V.bl)) ∧ Same H5 H6) ⟨by rw [upd_same]; rfl, Same.new hD⟩ (fun j H6 _ q => q.2 _ _ hp5) ?_ ?_⟩⟩
      · rintro j x H6 H7 hj ⟨hD6, s6⟩ ⟨e7, kk, vv, q, hkv, rfl, hq⟩
        subst e7
        obtain ⟨y, b, hy, rfl, hr⟩ := hmr.get hkv
        rw [kI_kV] at hq
        have hyk : ((frn ns i).map (·.1))[j]? = some y := by rw [List.getElem?_map, hy]; rfl
        have hlen : (((((frn ns i).map (·.1)).take j).map z0).map V.bl).length < sizeLine := by
          have e2 := few_of (frn_nodup ns i) (frn_bx hB i)
          rw [List.length_map, List.length_map, List.length_take]
          have e3 := (List.getElem?_eq_some_iff.mp hyk).1
          omega
        refine ⟨rfl, ?_⟩
        refine tyes ?_
        refine iteT ?_
        refine ⟨_, rfl, q, _, rfl, .inr (SqT.of hq), rfl, flat_ints y, _, hD6, hlen, ?_, same_upd s6 hD⟩
        rw [inV_ints, upd_same, List.take_add_one, hyk]
        simp [z0]
      · rintro H6 ⟨hD6, s6⟩
        have hlk : kr.length = ((frn ns i).map (·.1)).length := by rw [List.length_map]; exact hmr.len
        rw [hlk, List.take_length] at hD6
        refine ⟨D, _, rfl, SqL.of hD6, _, rfl, ?_⟩
        have ea : (((frn ns i).map (·.1)).map z0).any id = zer ns i := by
          unfold zer
          rw [List.any_map]
          rfl
        rw [ea]
        have n6 := n5.then (NX.of s6)
        cases hz : zer ns i with
        | true =>
          have hk := k3 n hF H6 ((NX.of s1).then n6)
          rw [few0_some hi hz hb3] at hk
          exact iteT ⟨_, rfl, hk⟩
        | false =>
          refine iteF ⟨fun b u _ e => s6 _ _ e, (fun b hb => nomatch hb), ⟨_, _, _, rfl⟩, n6, fun j hj => ?_⟩
          by_cases e : j = i
          · rw [e]; exact hz
          · exact hb3 j (by omega)
    · rintro σ H3 ⟨⟨x1, x2, x3, rfl⟩, n3, hb3⟩ Hw Hi H4 nw ⟨fa, hfM, hf0, hfw, hkeep⟩ ni
      have hk := k3 n hF H4 ((NX.of s1).then (nx_turn n3 nw hf0 hkeep ni))
      rw [few0_none hb3] at hk
      exact hk
end
end Hd
set_option maxHeartbeats 4000000
/-! Of three heaps one can be emptied: what fewest tells is a number. -/
namespace Hd
/-- the halving, as far as it goes -/
theorem Hv.done {ns : List Int} {lo mi hi : Nat} {p : Int} (N : NN ns) (T : Three ns lo mi hi) (hpa : (p - 1) * ns.getD lo 0 ≤ ns.getD mi 0) (n1 : -ns.getD lo 0 < 2 * ns.getD mi 0 - 2 * (p * ns.getD lo 0)) (n2 : 2 * ns.getD mi 0 - 2 * (p * ns.getD lo 0) ≤ ns.getD lo 0) :
    ∀ (b : Nat) (q r e : Int) (ps : List (Nat × Nat)) (m : List Int), q ≤ b → Hv ns lo mi hi p q r e ps m → ∃ qs m', Halved ns lo mi hi qs m'
  | 0, q, r, e, ps, m, hb, h => by have := h.q1; omega
  | b + 1, q, r, e, ps, m, hb, h => by
    by_cases c : 1 < q
    · exact Hv.done N T hpa n1 n2 b _ _ _ _ _ (by omega) (h.next T hpa c _ rfl)
    · have : q = 1 := by have := h.q1; omega
      subst this
      exact ⟨_, _, h.end N T n1 n2⟩
theorem halved_is {ns : List Int} {lo mi hi : Nat} (N : NN ns) (T : Three ns lo mi hi) : ∃ qs m, Halved ns lo mi hi qs m := by
  obtain ⟨a, b, c⟩ := near_ok T.pos T.le1
  have hp := a
  generalize (2 * ns.getD mi 0 + ns.getD lo 0 - 1) / (2 * ns.getD lo 0) = p at a b c hp
  have hpa : (p - 1) * ns.getD lo 0 ≤ ns.getD mi 0 := by
    have e : (p - 1) * ns.getD lo 0 = p * ns.getD lo 0 - ns.getD lo 0 := by rw [Int.sub_mul, Int.one_mul]
    have := T.pos
    omega
  exact Hv.done N T hpa b c p.toNat p 0 1 [] ns (by omega) (Hv.start hp)
theorem empties : ∀ (v : Nat) (ns : List Int) (x y z : Nat), NN ns → x < ns.length → y < ns.length → z < ns.length → x ≠ y → x ≠ z → y ≠ z → (∃ k, (k = x ∨ k = y ∨ k = z) ∧ ns.getD k 0 ≤ v) → ∃ ps m k, Gone ns ps m ∧ k < ns.length ∧ m.getD k 0 = 0
  | 0, ns, x, y, z, N, bx, by_, bz, n1, n2, n3, ⟨k, hk, h⟩ => ⟨[], ns, k, .nil _, by rcases hk with e | e | e <;> (subst e; assumption), by have := N k; omega⟩
  | v + 1, ns, x, y, z, N, bx, by_, bz, n1, n2, n3, ⟨k, hk, h⟩ => by
    by_cases hx : ns.getD x 0 = 0
    · exact ⟨[], ns, x, .nil _, bx, hx⟩
    by_cases hy : ns.getD y 0 = 0
    · exact ⟨[], ns, y, .nil _, by_, hy⟩
    by_cases hz : ns.getD z 0 = 0
    · exact ⟨[], ns, z, .nil _, bz, hz⟩
    have px := N x
    have py := N y
    have pz := N z
    have go : ∀ lo mi hi, Three ns lo mi hi → (∀ k, (k = x ∨ k = y ∨ k = z) → ns.getD lo 0 ≤ ns.getD k 0) → ∃ ps m k, Gone ns ps m ∧ k < ns.length ∧ m.getD k 0 = 0 := fun lo mi hi T hmin => by
      obtain ⟨qs, m, H⟩ := halved_is N T
      have hl := H.go.len
      obtain ⟨k2, hk2, hh⟩ := H.half
      have hlo := hmin k hk
      have T0 := T.pos
      obtain ⟨ps, m', k3, G, hk3, h0⟩ := empties v m lo mi hi (H.go.nn N) (by rw [hl]; exact T.blo) (by rw [hl]; exact T.bmi) (by rw [hl]; exact T.bhi) T.n1 T.n2 T.n3 ⟨k2, hk2, by omega⟩
      exact ⟨qs ++ ps, m', k3, H.go.app G, by rw [← hl]; exact hk3, h0⟩
    by_cases a : ns.getD x 0 ≤ ns.getD y 0
    · by_cases b : ns.getD y 0 ≤ ns.getD z 0
      · exact go x y z ⟨bx, by_, bz, n1, n2, n3, by omega, a, b⟩ fun k hk => by rcases hk with e | e | e <;> subst e <;> omega
      · by_cases c : ns.getD x 0 ≤ ns.getD z 0
        · exact go x z y ⟨bx, bz, by_, n2, n1, Ne.symm n3, by omega, c, by omega⟩ fun k hk => by rcases hk with e | e | e <;> subst e <;> omega
        · exact go z x y ⟨bz, bx, by_, Ne.symm n2, Ne.symm n3, n1, by omega, by omega, a⟩ fun k hk => by rcases hk with e | e | e <;> subst e <;> omega
    · by_cases b : ns.getD x 0 ≤ ns.getD z 0
      · exact go y x z ⟨by_, bx, bz, Ne.symm n1, n3, n2, by omega, by omega, b⟩ fun k hk => by rcases hk with e | e | e <;> subst e <;> omega
      · by_cases c : ns.getD y 0 ≤ ns.getD z 0
        · exact go y z x ⟨by_, bz, bx, n3, Ne.symm n1, Ne.symm n2, by omega, c, by omega⟩ fun k hk => by rcases hk with e | e | e <;> subst e <;> omega
        · exact go z y x ⟨bz, by_, bx, Ne.symm n3, Ne.symm n2, Ne.symm n1, by omega, by omega, by omega⟩ fun k hk => by rcases hk with e | e | e <;> subst e <;> omega
/-- where a plan leads is found -/
theorem run_found {ns : Stn} {n : Nat} (F : Frs ns n) : ∀ (ps : List (Nat × Nat)) (a m : Stn), a ∈ fnd ns n → Stp a.length ps → Hd.run a ps = some m → m ∈ fnd ns n
  | [], a, m, ha, _, e => (Option.some.inj e) ▸ ha
  | p :: ps, a, m, ha, st, e => by
    have hp := st p List.mem_cons_self
    unfold Hd.run at e
    split at e
    · rename_i hc
      have hy : mv a p.1 p.2 ∈ nxS a := List.mem_map.mpr ⟨p, mem_due.mpr ⟨hp.1, hp.2.1, hp.2.2, hc⟩, rfl⟩
      exact run_found F ps _ m (fnd_closed F a ha _ hy) (by rw [len_mv]; exact fun q hq => st q (List.mem_cons_of_mem _ hq)) e
    · cases e
theorem few0_is {ns : Stn} {L : Nat} {S : Int} (h : Bx L S ns) (hL : 3 ≤ L) {n : Nat} (F : Frs ns n) : ∃ k, few0 ns n = some k := by
  have hl := h.1
  obtain ⟨ps, m, k, G, hk, h0⟩ := empties (ns.getD 0 0).toNat ns 0 1 2 h.2.1 (by omega) (by omega) (by omega) (by decide) (by decide) (by decide) ⟨0, .inl rfl, by have := h.2.1 0; omega⟩
  have hm := run_found F ps ns m (fnd_mono (Nat.zero_le n) (by simp [fnd, stA])) G.stp G.run
  have hz : (0 : Int) ∈ m := by
    have hkl : k < m.length := by rw [G.len]; exact hk
    rw [List.getD_eq_getElem?_getD, List.getElem?_eq_getElem hkl] at h0
    have h0 : m[k] = 0 := h0
    exact h0 ▸ List.getElem_mem hkl
  obtain ⟨j, hj, hq⟩ := fnd_front hm
  have hjn : j < n := by
    refine Nat.lt_of_le_of_ne hj fun e => ?_
    subst e
    rw [F.last] at hq
    cases hq
  cases e : few0 ns n with
  | some k => exact ⟨k, rfl⟩
  | none =>
    have := List.find?_eq_none.mp e j (List.mem_range.mpr hjn)
    exact absurd (List.any_eq_true.mpr ⟨m, hq, decide_eq_true hz⟩) this
end Hd
set_option maxHeartbeats 4000000
/-! max(d.values()) of a locked dict whose keys are tuples. -/
namespace Hd
open PySem PySem.Spec PyProof.Rows L2
def tMaxVals (td : TE) : TE := fun σ H Q => td σ H fun x H1 => ∃ (a : Addr) (ob : Obj) (kvs : List (List L2.Key × V)) (ns : List Int), x = V.ref a ∧ H1 a = some (.frz ob (.dT kvs)) ∧ kvs.map (·.2) = ns.map V.int ∧ ns ≠ [] ∧ ∀ m, m ∈ ns → (∀ j ∈ ns, j ≤ m) → Q (.int m) H1
section
variable {X : Cx} {o : Expr} {p pos apos mpos : Pos} {td : TE}
theorem pe_maxVals (hc : X.calm = true) (hg : Gl X "max") (hm : X.mg "max" = none) (hd : PE X o td) (hbase : attributeBase o "values" X.env (eval o X.env) = eval o X.env := by rfl) (hline : (apos.endLine == mpos.line) = true := by rfl)
    (hse : starEach [Expr.Call (.Attribute o "values" apos) [] [] mpos] X.env = [(false, eval (Expr.Call (.Attribute o "values" apos) [] [] mpos) X.env)] := by rfl) :
    PE X (.Call (.Name "max" p) [.Call (.Attribute o "values" apos) [] [] mpos] [] pos) (tMaxVals td) := by
  refine ⟨fun pins s σ H Q I h => ?_⟩
  refine wpAny_Call_Name_kw (ld_blt I hg hm (u := .builtin "max") (by first | rfl | decide +kernel) ?_ (by first | decide +kernel | decide) (by first | decide +kernel | decide))
  rw [hse]
  refine PySem.callWith_builtin1 (wpAny_Call_method0_late hbase hline (thn (hd.run pins s σ H _ I h) fun v s1 q => ?_))
  obtain ⟨x, H1, I1, r1, a, ob, kvs, ns, rfl, ha, hv, hne, q⟩ := q
  obtain rfl : v = Value.ref a := r1
  obtain ⟨hsys, es, ep, raw, _, hsz, ent⟩ := frzT_raw I1 ha
  obtain ⟨od, ho, hx, hdat⟩ := id raw
  refine ⟨"dict", "dict.values", F.plainAttrs_dict, F.slot_dict_values, F.type_dict_values, ⟨od, ho, hx.1⟩, fun b e => ?_, Calls.callWith_builtin rfl (PySem.evalArgs_none ?_)⟩
  · cases e
    exact ⟨od, ho, hx.2.1⟩
  refine call_meetsIn F.slot_dict_values ⟨od, ho, hx.1⟩ F.entry_dict_values (F.args_dict_values_1 _) (meets_dict_values_raw a hsys) ⟨⟨es, ep, raw⟩, ?_⟩
  have raw1 : (s1.heap.push { cls := .type "dict_values", data := .fields #[.ref a] }).DictRaw a es ep := raw.push _
  have hkn : kvs.length = ns.length := by
    have e1 := congrArg List.length hv
    rw [List.length_map, List.length_map] at e1
    exact e1
  have hval : ∀ (i : Nat) (v : Value), (∃ hi : i < es.size, v = es[i].val) → ∃ t, v = Value.int (ns.getD i 0) t := fun i v hi => by
    obtain ⟨hi, rfl⟩ := hi
    have hk : i < kvs.length := by omega
    obtain ⟨_, _, _, r⟩ := ent i kvs[i].1 kvs[i].2 hi (List.getElem?_eq_getElem hk)
    have e1 : (kvs.map (·.2))[i]? = (ns.map V.int)[i]? := by rw [hv]
    rw [List.getElem?_map, List.getElem?_map, List.getElem?_eq_getElem hk, List.getElem?_eq_getElem (show i < ns.length by omega)] at e1
    have e2 : kvs[i].2 = V.int ns[i] := Option.some.inj e1
    rw [e2] at r
    obtain ⟨t, e3⟩ := r
    refine ⟨t, ?_⟩
    rw [e3, List.getD_eq_getElem?_getD, List.getElem?_eq_getElem (show i < ns.length by omega)] <;> rfl
  have hlt : a < s1.heap.objs.size := Heap.lt_size ho
  have hs2 : (s1.heap.push { cls := .type "dict_values", data := .fields #[.ref a] }).objs.size = s1.heap.objs.size + 1 := Heap.size_push _ _
  refine call_max_walk (wpAny_pyIter_values_raw (v := s1.heap.objs.size) (d := a) ⟨_, Heap.get?_push_size _ rfl, rfl, rfl⟩ raw1 ?_)
  refine ⟨_, _, _, _, _, _, _, rfl, Walks.rawValues (A := X.A.in1) (I.ok.hd hc) (s1.heap.push { cls := .type "dict_values", data := .fields #[.ref a] }).objs.size a (by rw [hs2]; exact Nat.ne_of_lt (Nat.lt_succ_of_lt hlt)) es ep,
    ⟨⟨_, Heap.get?_push_size _ rfl, rfl, rfl⟩, raw1.push _⟩, fun b hb => ?_, ?_, CmpOf.ints_gt (fun i => ns.getD i 0) hval, fun v h' tk hP hk => ?_⟩
  · show b < ((s1.heap.push _).push _).objs.size
    rw [Heap.size_push, Heap.size_push]
    rw [hs2] at hb
    rcases List.mem_cons.mp hb with e | hb
    · rw [e]
      exact Nat.lt_succ_self _
    · have e : b = a := List.mem_singleton.mp hb
      rw [e]
      exact Nat.lt_succ_of_lt (Nat.lt_succ_of_lt hlt)
  · have := List.length_pos_iff.mpr hne
    omega
  · obtain ⟨t, rfl⟩ := hval _ v hP
    obtain ⟨m1, m2⟩ := argBest_gt (fun i => ns.getD i 0) (es.size - 1)
    have hnp := List.length_pos_iff.mpr hne
    have k1 : ∀ b u, s1.heap.get? b = some u → (s1.heap.push { cls := .type "dict_values", data := .fields #[.ref a] }).get? b = some u := fun b u e => Heap.get?_push_of_some _ e
    refine ⟨.int _, H1, I1.kept (t' := tk) fun b u e => hk b u (fun hmem => ?_) (Heap.get?_push_of_some _ (k1 b u e)), ⟨t, rfl⟩, q _ (PySem.getD_mem (by omega)) fun y hy => ?_⟩
    · have e1 : b = (s1.heap.push { cls := .type "dict_values", data := .fields #[.ref a] }).objs.size := List.mem_singleton.mp hmem
      have e2 := Heap.lt_size e
      rw [hs2] at e1
      rw [e1] at e2
      exact absurd e2 (Nat.not_lt.mpr (Nat.le_succ _))
    · obtain ⟨j, hj, e⟩ := List.mem_iff_getElem.mp hy
      have z := m2 j (by omega)
      have e3 : ns.getD j 0 = y := by rw [List.getD_eq_getElem?_getD, List.getElem?_eq_getElem hj, ← e] <;> rfl
      rw [e3] at z
      exact z
end
end Hd
set_option maxHeartbeats 4000000
/-! {elt for x in xs}, the elements tuples of ints, fewer than 64. -/
namespace Hd
open PySem PySem.Spec PyProof.Rows L2 PpSet
/-- s.add(t) -/
theorem set_addT {X : Cx} {pins : List (Addr × Obj)} {σ : L2.St} {H : Hp} {s : Shared} {E : Value → Shared → Prop} {D b : Addr} {L : List (Addr × List Int)} {k : List Int} {Q : Value → Shared → Prop} (hu : X.A.units + 64 < cLine) (I : Inv X pins σ H s) (hD : H D = some (SetTO X.prog X.w D L)) (hL : ∀ p ∈ L, SqT X.K H p.1 (p.2.map V.int))
    (hb : SqT X.K H b (k.map V.int)) (few : L.length + 1 < 64) (h : ∀ L' s', (k ∈ L.map (·.2) → L' = L) → (k ∉ L.map (·.2) → L'.Perm ((b, k) :: L)) → Inv X pins σ (upd H D (SetTO X.prog X.w D L')) s' → Q .none s') :
    wpAny (model X.prog X.w) X.A (call (.builtin "set.add") [.ref D, .ref b]) Q E s := by
  have R0 : SetT0 X.prog X.w s.heap D L := (I.hok D _ hD).1
  obtain ⟨es, ep, t, R⟩ := R0.full fun p hp => I.isT (hL p hp)
  have hk := I.isT hb
  obtain ⟨o, ho, hx, hd⟩ := R.ob
  refine wpAny_call_entry F.slot_set_add ⟨o, ho, hx.1⟩ F.entry_set_add ?_ (F.args_set_add_2 _ _)
  unfold Builtin.«set.add» Builtin.Frozenset.oneOther
  simp only [List.isEmpty_nil, bind_assoc]
  unfold Builtin.Frozenset.addrOf setAdd
  refine wpAny_bind (wpAny_pure ?_)
  try dsimp only
  refine wpAny_bind (wpAny_pure ?_)
  try dsimp only
  refine wpAny_bind ?_
  refine wpAny_holding ?_
  refine wpAny_bind (wpAny_pyHash_tuple (show X.A.in1.units < cLine by show X.A.units + 1 < cLine; omega) hk ?_)
  have R2 : SetTR X.prog X.w ({ s with toks := s.toks + (k.length + 1) } : Shared).heap D L es ep t := R
  refine add_at (s := { s with toks := s.toks + (k.length + 1) }) R2 hk (show X.A.in1.units < cLine by show X.A.units + 1 < cLine; omega) few fun bb h' L' es' ep' t' hsb hS2 c1 c2 => ?_
  show wpAny _ _ (ret Value.none) _ _ _
  refine wpAny_pure ⟨_, rfl, h L' _ c1 c2 ?_⟩
  obtain ⟨o2, ho2, _, _⟩ := hS2.ob
  exact I.write (x := D) (e := D) (t' := s.toks + (k.length + 1)) (by rw [hD]; trivial) (.inl rfl) (fun b u hb hu => (hsb.2 b hb).trans hu) ⟨o2, ho2⟩ (setTO_new hS2.t0)
section
variable {X : Cx}
def tScT (P : Program) (w : World) (K : PySem.W.Frag) (wi : TI) (g : TG) (tt : TT) (te : TE) (vs : List Nat) : TE := fun σ H Q => wi σ H fun J H1 => ∀ D, H1 D = none → ∃ W : Nat → Nat → Hp → Prop, (∃ m, W 0 m (upd H1 D (SetTO P w D []))) ∧ ∀ i m H, W i m H →
  (J.stop i H ∧ Q (.ref D) H) ∨ (J.go i H ∧ ∃ Nx : Hp → Prop, (∀ H', Nx H' → ∃ m', m' < m ∧ W (i + 1) m' H') ∧ ∀ x H', J.yld i H x H' → g x (wipe σ vs) H' fun σ2 H2 => wipe σ2 vs = wipe σ vs ∧ tt σ2 H2 fun b H3 =>
    if b = true then te σ2 H3 fun y H4 => ∃ (b : Addr) (k : List Int) (L : List (Addr × List Int)), y = .ref b ∧ SqT K H4 b (k.map V.int) ∧ H4 D = some (SetTO P w D L) ∧ (∀ p ∈ L, SqT K H4 p.1 (p.2.map V.int)) ∧ L.length + 1 < 64 ∧
      ∀ L', (k ∈ L.map (·.2) → L' = L) → (k ∉ L.map (·.2) → L'.Perm ((b, k) :: L)) → Nx (upd H4 D (SetTO P w D L')) else Nx H3)
theorem pe_scT {elt tg iter : Expr} {ifs : List Expr} {scope : Scope} {own : List (Str × Nat)} {pos : Pos} {wi : TI} {g : TG} {tt : TT} {te : TE} (hu : X.A.units + 64 < cLine) (hc : X.calm = true) (hN : X.N.Nodup) (hi : PI X tg iter wi) (ok : BlkOk X.N X.env.scope scope own)
    (B : ∀ (s : Shared) (H : Hp) (fp : List Addr) (cl : List (Str × Addr)) (C : Addr), PG (blkOf X s H scope fp cl C) tg g ∧ PTs (blkOf X s H scope fp cl C) ifs tt ∧ PE (blkOf X s H scope fp cl C) elt te) (hs : ∀ x, foldedSetIterable iter X.env x = pure x := by intro _; rfl) :
    PE X (.SetComp elt [⟨tg, iter, ifs, 0⟩] scope pos) (tScT X.prog X.w X.K wi g tt te (own.map (·.2))) := by
  refine ⟨fun pins s σ H Q I h => ?_⟩
  rw [eval_SetComp]
  refine blk_coreA (own := own) hN I ok rfl hs (fun itv fp H2 s2 => ∃ it tn J, itv = .ref it ∧ Turn X.prog X.w X.K tg J fp it tn ∧ tn 0 s2.heap ∧ ∀ D, H2 D = none → ∃ W : Nat → Nat → Hp → Prop, (∃ m, W 0 m (upd H2 D (SetTO X.prog X.w D []))) ∧ ∀ i m H, W i m H →
    (J.stop i H ∧ Q (.ref D) H) ∨ (J.go i H ∧ ∃ Nx : Hp → Prop, (∀ H', Nx H' → ∃ m', m' < m ∧ W (i + 1) m' H') ∧ ∀ x H', J.yld i H x H' → g x (wipe σ (own.map (·.2))) H' fun σ2 H2 => wipe σ2 (own.map (·.2)) = wipe σ (own.map (·.2)) ∧ tt σ2 H2 fun b H3 =>
      if b = true then te σ2 H3 fun y H4 => ∃ (b : Addr) (k : List Int) (L : List (Addr × List Int)), y = .ref b ∧ SqT X.K H4 b (k.map V.int) ∧ H4 D = some (SetTO X.prog X.w D L) ∧ (∀ p ∈ L, SqT X.K H4 p.1 (p.2.map V.int)) ∧ L.length + 1 < 64 ∧
        ∀ L', (k ∈ L.map (·.2) → L' = L) → (k ∉ L.map (·.2) → L'.Perm ((b, k) :: L)) → Nx (upd H4 D (SetTO X.prog X.w D L')) else Nx H3))
    (fun D => SetTO X.prog X.w D []) { cls := .type "set", dict := none, data := .set #[] 0 (.fresh 0 0 (!X.w.params.followText "set-order")) } ?_ (fun Q' s2 q => ?_) (fun H' h hb => ?_) ?_ (fun D C s' m H' I' q hn f => blk_val I' q hn f)
  · refine thn (hi.run pins s σ H _ I h) fun v s1 q => thn q fun itv s2 q => ?_
    obtain ⟨it, fp, tn, J, H2, e, I2, T, st, f, q⟩ := q
    refine ⟨fp, H2, I2, fun b hb => ⟨f b hb, ?_⟩, it, tn, J, e, T, st, q⟩
    obtain ⟨o, e, _⟩ := T.obj _ _ st b hb
    exact Heap.lt_size e
  · exact newSet_ok q
  · exact setTO_new (setTR_fresh (Heap.get?_push_size _ rfl)).t0
  · intro itv fp H2 s2 s3 s4 cl D C kk hDn hDs ho3 hg hkp hfp I4
    obtain ⟨it, tn, J, rfl, T, st2, q⟩ := kk
    obtain ⟨W, ⟨m0, w0⟩, turn⟩ := q D hDn
    obtain ⟨pg, pt, pk⟩ := B s3 (upd H2 D (SetTO X.prog X.w D [])) fp cl C
    have st4 : tn 0 s4.heap := T.keep _ _ _ st2 fun b _ o e => hkp b o e
    have loop : codeAny (model X.prog X.w) X.A (.compLoop (.SetComp elt [⟨tg, iter, ifs, 0⟩] scope pos) 0 (.ref it) (.ref D) (compEnvC scope cl C X.env)) (fun r s' => ∃ f, r = .ok f ∧ ∃ σ' H', Inv (blkOf X s3 (upd H2 D (SetTO X.prog X.w D [])) scope fp cl C) [] σ' H' s' ∧ Q (.ref D) H') s4 := by
      refine compLoopS_any (fun n s' => ∃ i H', Inv (blkOf X s3 (upd H2 D (SetTO X.prog X.w D [])) scope fp cl C) [] (wipe σ (own.map (·.2))) H' s' ∧ tn i s'.heap ∧ (∀ b ∈ fp, H' b = none) ∧ W i n H') ?_ m0 ⟨0, _, I4, st4, fun b hb => (hfp b hb).1, w0⟩
      rintro n s5 ⟨i, H5, I5, st5, n5, w5⟩
      rcases turn i n H5 w5 with ⟨stop, qq⟩ | ⟨gg, Nx, hNx, step⟩
      · refine thnF (T.done (blkOf X s3 (upd H2 D (SetTO X.prog X.w D [])) scope fp cl C) rfl rfl rfl hc i [] s5 _ H5 (fun _ _ => False) I5 (blk_fp I5 n5) st5 stop) fun r s6 q => ?_
        obtain ⟨rfl, I6⟩ := q
        exact ⟨.next, rfl, _, H5, I6, qq⟩
      · refine thnF (T.item (blkOf X s3 (upd H2 D (SetTO X.prog X.w D [])) scope fp cl C) rfl rfl rfl hc i [] s5 _ H5 (fun _ _ => False) I5 (blk_fp I5 n5) st5 gg) fun r s6 q => ?_
        obtain ⟨u, rfl, q⟩ := q
        refine thnF q fun _ s7 q => ?_
        obtain ⟨x, H7, I7, r7, y7, st7, n7⟩ := q
        have I7p := I7.pinned (blk_fp I7 n7) (T.obj _ _ st7)
        refine thnF (pg.run _ s7 _ H7 x u _ I7p r7 (step x H7 y7)) fun _ s8 q => ?_
        obtain ⟨σ8, H8, I8, hw8, q8⟩ := q
        refine thnF (pt.run _ s8 σ8 H8 _ I8 q8) fun b s9 q => ?_
        obtain ⟨H9, I9, q9⟩ := q
        have fin : ∀ {s' : Shared} {H' : Hp}, Inv (blkOf X s3 (upd H2 D (SetTO X.prog X.w D [])) scope fp cl C) ([] ++ pinsAt fp s7.heap) σ8 H' s' → Nx H' → ∃ m, m < n ∧ ∃ i H', Inv (blkOf X s3 (upd H2 D (SetTO X.prog X.w D [])) scope fp cl C) [] (wipe σ (own.map (·.2))) H' s' ∧ tn i s'.heap ∧ (∀ b ∈ fp, H' b = none) ∧ W i m H' := by
          intro s' H' I' nx
          obtain ⟨m', hm, w'⟩ := hNx H' nx
          have pin' : ∀ b ∈ fp, ∀ o, s7.heap.get? b = some o → s'.heap.get? b = some o ∧ H' b = none := by
            intro b hb o e
            have z := I'.pin (b, o) (List.mem_append_right _ (List.mem_append_right _ (mem_pinsAt hb e)))
            exact ⟨z.1, z.2.1⟩
          have hl : (wipe σ (own.map (·.2))).length = σ8.length := by
            rw [← hw8]
            exact wipe_length _ _
          refine ⟨m', hm, i + 1, H', (I'.unpinned (pins := [])).weak hl ?_, T.keep _ _ _ st7 fun b hb o e => (pin' b hb o e).1, ?_, w'⟩
          · intro j v e
            rw [← hw8] at e
            exact (wipe_some e).1
          · intro b hb
            obtain ⟨o, e, _⟩ := T.obj _ _ st7 b hb
            exact (pin' b hb o e).2
        cases b with
        | false => exact fin I9 q9
        | true =>
          refine thnF (pk.run _ s9 σ8 H9 _ I9 q9) fun z s10 q => ?_
          obtain ⟨yk, H10, I10, r10, kb, k, L, ek, hkb, hD10, hL10, few, nx⟩ := q
          subst ek
          obtain rfl : z = .ref kb := r10
          exact set_addT (X := blkOf X s3 (upd H2 D (SetTO X.prog X.w D [])) scope fp cl C) hu I10 hD10 hL10 hkb few fun L' s12 c1 c2 I12 => fin I12 (nx L' c1 c2)
    exact codeAny_compStart_set loop (T.self X.A 0 _ _ _ st4 loop)
end
end Hd
set_option maxHeartbeats 4000000
/-! sorted(t), a tuple of ints. -/
namespace Hd
open PySem PySem.Spec PyProof.Rows L2
/-- the ints of a tuple, in order -/
def rSortTI (K : PySem.W.Frag) : List V → Hp → VK → Prop := fun vs H Q => ∃ (a : Addr) (ns : List Int), vs = [V.ref a] ∧ SqT K H a (ns.map V.int) ∧
  ∀ (ns' : List Int) (p : Addr), ns'.Perm ns → ns'.Pairwise (· ≤ ·) → H p = none → Q (.ref p) (upd H p (.lst (ns'.map V.int)))
theorem cr_sortTI {X : Cx} : CallR X (.builtin "sorted") (rSortTI X.K) := by
  intro pins s σ H vs us Q I r h
  obtain ⟨a, ns, rfl, hs, q⟩ := h
  obtain ⟨its, rv, ⟨o, ho, hc, n, hd⟩, hz⟩ := I.tuple hs
  rw [Vals.ref1 r]
  have hi := rv.ints
  have hz' : its.length ≤ sizeLine := by rw [← rv.length]; exact hz
  refine Calls.call_function_entry kind_sorted plain_sorted entry_sorted (args_sorted1 _) ?_
  unfold Builtin.«sorted»
  refine wpAny_bind (m := checkCount "sorted" 1 1 _) (wpAny_pure ?_)
  refine wpAny_bind (wpAny_collect_seq (T := "tuple") a (.inr rfl) ho hc hd (fun h' hk => ?_) (by rw [List.size_toArray]; exact hz'))
  refine wpAny_bind (wpAny_newList ?_ (by simpa using hz'))
  have I1 : Inv X pins σ H { s with heap := h' } := I.kept (t' := s.toks) hk
  have hob : (h'.push (seqObj "list" its.toArray 0)).get? h'.objs.size = some (seqObj "list" its.toArray 0) := Heap.get?_push_size _ rfl
  have hfr : H h'.objs.size = none := I1.hok.fresh (Nat.le_refl _)
  refine wpAny_bind (wpAny_holding (wpAny_call_entry slot_list_sort ⟨_, hob, rfl⟩ entry_list_sort (SrtO.list_sort_ord (vs := its) (ltv := SrtO.ltIv) SrtO.swo_int hob hz' (fun h2 => SrtO.ints_sortable hi h2) fun out hsr hst => ⟨_, rfl, ?_⟩) (args_list_sort _)))
  obtain ⟨k1, k2, k3⟩ := SrtO.ints_out hi hsr hst
  obtain ⟨ep, he'⟩ := PyProof.Rows.sortedHeap_at (vs := its) (out := out.toArray) hob
  have keep : ∀ b u, h'.get? b = some u → (sortedHeap (h'.push (seqObj "list" its.toArray 0)) h'.objs.size its out.toArray).get? b = some u := fun b u e => by
    have hlt := Heap.lt_size e
    rw [PyProof.Rows.sortedHeap_old (Nat.ne_of_lt hlt) (by rw [Heap.size_push]; exact Nat.lt_succ_of_lt hlt)]
    exact Heap.get?_push_of_some _ e
  have hlen : ((out.map SrtO.iv).map V.int).length ≤ sizeLine := by
    rw [List.length_map, k2.length_eq]
    rw [List.length_map] at hz
    exact hz
  exact wpAny_pure ⟨_, rfl, .ref h'.objs.size, upd H h'.objs.size (.lst ((out.map SrtO.iv).map V.int)), I1.laid (t' := s.toks) keep (Nat.le_refl _) ⟨hlen, out, ep, vals_of_ints k1, he'⟩, rfl, q _ _ k2 k3 hfr⟩
end Hd
set_option maxHeartbeats 8000000
/-! All ascending heaps of one sum. -/
namespace Hd
open PySem PySem.Spec PyProof.Rows L2 StX
/-- all ascending heaps, as the program makes them -/
def ascF : Nat → Int → Int → List Stn
  | 0, _, _ => []
  | 1, t, _ => [[t]]
  | m + 2, t, l => (List.range (t / ((m + 2 : Nat) : Int) + 1 - l).toNat).flatMap fun i : Nat => (ascF (m + 1) (t - (l + i)) (l + i)).map fun r => (l + i) :: r
theorem ascF_len : ∀ (m : Nat) (t l : Int), t ≤ 40 → 0 ≤ l → (ascF m t l).length ≤ 41 ^ m
  | 0, _, _, _, _ => by simp [ascF]
  | 1, _, _, _, _ => by simp [ascF]
  | m + 2, t, l, ht, hl => by
    unfold ascF
    rw [List.length_flatMap]
    have hb : ∀ i ∈ List.range (t / ((m + 2 : Nat) : Int) + 1 - l).toNat, ((ascF (m + 1) (t - (l + i)) (l + i)).map fun r => (l + (i : Int)) :: r).length ≤ 41 ^ (m + 1) := fun i _ => by
      rw [List.length_map]
      exact ascF_len (m + 1) _ _ (by omega) (by omega)
    have hn : (t / ((m + 2 : Nat) : Int) + 1 - l).toNat ≤ 41 := by
      have : t / ((m + 2 : Nat) : Int) ≤ 40 := by
        by_cases c : 0 ≤ t
        · exact Int.le_trans (Int.ediv_le_self _ c) ht
        · have := Int.ediv_neg_of_neg_of_pos (show t < 0 by omega) (show (0 : Int) < ((m + 2 : Nat) : Int) by omega)
          omega
      omega
    have hs : ∀ (xs : List Nat) (f : Nat → Nat) (b : Nat), (∀ i ∈ xs, f i ≤ b) → (xs.map f).sum ≤ xs.length * b := by
      intro xs f b h
      induction xs with
      | nil => simp
      | cons x xs ih =>
        have h1 := h x List.mem_cons_self
        have h2 := ih fun i hi => h i (List.mem_cons_of_mem _ hi)
        rw [List.map_cons, List.sum_cons, List.length_cons, Nat.succ_mul]
        omega
    have h3 := hs _ _ _ hb
    rw [List.length_range] at h3
    have h4 : (t / ((m + 2 : Nat) : Int) + 1 - l).toNat * 41 ^ (m + 1) ≤ 41 * 41 ^ (m + 1) := Nat.mul_le_mul_right _ hn
    have h5 : 41 ^ (m + 2) = 41 * 41 ^ (m + 1) := by rw [Nat.pow_succ, Nat.mul_comm]
    omega
theorem ascF_mem : ∀ (m : Nat) (t l : Int) (x : Stn), x ∈ ascF m t l → x.length = m
  | 0, _, _, x, h => by simp [ascF] at h
  | 1, _, _, x, h => by
    simp only [ascF, List.mem_singleton] at h
    rw [h]; rfl
  | m + 2, t, l, x, h => by
    unfold ascF at h
    obtain ⟨i, _, hi⟩ := List.mem_flatMap.mp h
    obtain ⟨r, hr, rfl⟩ := List.mem_map.mp hi
    rw [List.length_cons, ascF_mem (m + 1) _ _ r hr]
theorem cr_sortTIK {X : Cx} {K : PySem.W.Frag} (q : X.K = K) : CallR X (.builtin "sorted") (rSortTI K) := by
  subst q
  exact cr_sortTI
/-- tuple(xs) -/
def rTupOf (K : PySem.W.Frag) : List V → Hp → VK → Prop := fun xs H Q => ∃ p ys, xs = [V.ref p] ∧ ((SqL K H p ys ∧ ∀ l, H l = none → Q (.ref l) (upd H l (.tup ys))) ∨ (SqT K H p ys ∧ Q (.ref p) H))
theorem call_tuple_ofK {X : Cx} {K : PySem.W.Frag} (q : X.K = K) : CallR X (.type "tuple") (rTupOf K) := by
  subst q
  exact call_tuple_of
/-- a standing in order -/
def srtI (y : Stn) : Stn := y.mergeSort fun a b => decide (a ≤ b)
theorem srtI_perm (y : Stn) : (srtI y).Perm y := List.mergeSort_perm _ _
theorem srtI_sorted (y : Stn) : (srtI y).Pairwise (· ≤ ·) := by
  have h := List.pairwise_mergeSort (le := fun a b : Int => decide (a ≤ b)) (fun a b c h1 h2 => by
    simp only [decide_eq_true_eq] at h1 h2 ⊢
    omega) (fun a b => by
    simp only [Bool.or_eq_true, decide_eq_true_eq]
    omega) y
  exact h.imp fun h => by simpa using h
theorem perm_one : ∀ {l m : List Int}, l.Perm m → l.Pairwise (· ≤ ·) → m.Pairwise (· ≤ ·) → l = m
  | [], m, p, _, _ => p.nil_eq
  | x :: l, [], p, _, _ => absurd p.length_eq (by simp)
  | x :: l, y :: m, p, s1, s2 => by
    obtain ⟨a1, a2⟩ := List.pairwise_cons.mp s1
    obtain ⟨b1, b2⟩ := List.pairwise_cons.mp s2
    have e : x = y := by
      have hx : x ∈ y :: m := p.mem_iff.mp List.mem_cons_self
      have hy : y ∈ x :: l := p.mem_iff.mpr List.mem_cons_self
      rcases List.mem_cons.mp hx with z | z
      · exact z
      · rcases List.mem_cons.mp hy with z2 | z2
        · exact z2.symm
        · have c1 := a1 y z2
          have c2 := b1 x z
          omega
    subst e
    rw [perm_one (List.Perm.cons_inv p) a2 b2]
theorem srtI_one {y z : Stn} (p : z.Perm y) (s : z.Pairwise (· ≤ ·)) : z = srtI y := perm_one (p.trans (srtI_perm y).symm) s (srtI_sorted y)
/-- the standings behind the steps, each in order, none twice -/
structure AscB (ns : Stn) (xs : List Stn) : Prop where
  nd : xs.Nodup
  me : ∀ x, x ∈ xs ↔ ∃ y ∈ nxS ns, x = srtI y
  up : xs.Pairwise fun x y => TS.code 64 x ≤ TS.code 64 y
def spAscB (K : PySem.W.Frag) : Sp := fun vs H Q _ => ∃ (t : Addr) (ns : Stn) (L : Nat) (S : Int), vs = [.ref t] ∧ H t = some (.tup (ns.map V.int)) ∧ Bx L S ns ∧ 1 ≤ L ∧ L ≤ 6 ∧ S ≤ 40 ∧
  ∀ (l : Addr) (hs : List Hrow) (H' : Hp), Same H H' → H l = none → H' l = some (.lst (hs.map fun q => V.ref q.1)) → (∀ q ∈ hs, H' q.1 = some (.tup (q.2.map V.int))) → AscB ns (hs.map (·.2)) → Q (.ref l) H'
theorem bx_le {L : Nat} {S : Int} {x : Stn} (h : Bx L S x) : ∀ n ∈ x, 0 ≤ n ∧ n ≤ S := by
  intro n hn
  obtain ⟨_, h2, h3⟩ := h
  have key : ∀ (xs : List Int), (∀ a ∈ xs, 0 ≤ a) → ∀ a ∈ xs, a ≤ xs.sum := by
    intro xs
    induction xs with
    | nil => intro _ a ha; cases ha
    | cons b xs ih =>
      intro hh a ha
      have hb := hh b List.mem_cons_self
      have hs : 0 ≤ xs.sum := by
        clear ih ha
        induction xs with
        | nil => simp
        | cons c xs ih2 =>
          have hc := hh c (by simp)
          have := ih2 fun a ha => hh a (by
            rcases List.mem_cons.mp ha with z | z
            · simp [z]
            · simp [z])
          simp
          omega
      rw [List.sum_cons]
      rcases List.mem_cons.mp ha with z | z
      · omega
      · have := ih (fun a ha => hh a (List.mem_cons_of_mem _ ha)) a z
        omega
  have := key x (fun a ha => h2.mem a ha) n hn
  exact ⟨h2.mem n hn, by omega⟩
structure Thd (mg : Str → Option Value) : Prop extends Tz mg where
  lm : ∃ t, mg "LEAST_MANY" = some (.int 3 t)
  gm : ∃ t, mg "GREATEST_MANY" = some (.int 4 t)
def spAsc (K : PySem.W.Frag) (m : Nat) : Sp := fun vs H Q _ => ∃ (k : Nat) (t l : Int), vs = [.int (k : Int), .int t, .int l] ∧ 1 ≤ k ∧ k ≤ m ∧ k ≤ 4 ∧ t ≤ 40 ∧ 0 ≤ t ∧ 0 ≤ l ∧ l ≤ 1000 ∧
  ∀ (p : Addr) (hs : List Hrow) (H' : Hp), Same H H' → H p = none → H' p = some (.lst (hs.map fun q => V.ref q.1)) → (∀ q ∈ hs, H' q.1 = some (.tup (q.2.map V.int))) → hs.map (·.2) = ascF k t l → Q (.ref p) H'
section
variable {P : Program} {w : World} {K : PySem.W.Frag} {mg : Str → Option Value} {base : Heap}
abbrev s_ascending_heaps : Stmt := top 34
theorem sc_ascending_heaps : FnScope ["many", "total", "least", "found", "first", "rest"] ["many", "total", "least"] (defScope s_ascending_heaps) := ⟨rfl, rfl, rfl, by decide +kernel, rfl, by decide +kernel, by decide +kernel⟩
theorem ok_ascending_0 {f : Addr} {fd : FuncData} (F : Fun K "ascending_heaps" "ascending_heaps" s_ascending_heaps f fd) : FnOk P w K mg base CX0 1 f fd ["many", "total", "least"] (spAsc K 0) := by
  refine F.ok sc_ascending_heaps (fun vs H Q E h => ?_) (fun cdv A outer s H vs Q E hr h => ?_)
  · obtain ⟨k, t, l, rfl, _⟩ := h
    rfl
  · obtain ⟨k, t, l, rfl, h1, h2, _⟩ := h
    omega
theorem ok_ascending_heaps {f : Addr} {fd : FuncData} {m n : Nat} (F : Fun K "ascending_heaps" "ascending_heaps" s_ascending_heaps f fd) (T : Tz mg) (C_ascending_heaps : Cal P w K mg base CX0 (n + 1) "ascending_heaps" ["many", "total", "least"] (spAsc K m)) : FnOk P w K mg base CX0 (n + 2) f fd ["many", "total", "least"] (spAsc K (m + 1)) := by
  refine F.ok sc_ascending_heaps (fun vs H Q E h => ?_) (fun cdv A outer s H vs Q E hr h => ?_)
  · obtain ⟨k, t, l, rfl, _⟩ := h
    rfl
  · obtain ⟨k, t, l, rfl, h1, h2, h4, ht, ht0, hl, hl2, hQ⟩ := h
    refine ⟨_, (pss_cons (ps_if (pt_cmpR op_eq (pv 0) pe_int (nomark _)) (pss_one (ps_ret (pe_lst (pa_cons (pe_tup (pa_cons (pv 1) pa_nil)) pa_nil)))) pss_nil)
      (pss_cons (ps_set (i := 3) sc_ascending_heaps.nd rfl (Or.inl rfl) (pe_lst pa_nil))
      (pss_cons (ps_for PassesOwn.never rfl (pi_range2 rfl T.range (pa_cons (pv 2) (pa_cons (pe_op op_add (pe_op op_fdiv (pv 1) (pv 0)) pe_int) pa_nil))) (pg_name (i := 4) sc_ascending_heaps.nd rfl (Or.inl rfl))
      (pss_one (ps_for PassesOwn.never rfl (pi_list (pe_cal C_ascending_heaps hr rfl pass0 (pa_cons (pe_op op_sub (pv 0) pe_int) (pa_cons (pe_op op_sub (pv 1) (pv 4)) (pa_cons (pv 4) pa_nil))) (hk := Nat.le_refl _))) (pg_name (i := 5) sc_ascending_heaps.nd rfl (Or.inl rfl))
      (pss_one (ps_expr (pe_bm PySem.F.plainAttrs_list PySem.F.slot_list_append PySem.F.type_list_append mt_append (pv 3) (pa_cons (pe_tup (pa_cons (pv 4) (pa_star (pv 5) pa_nil))) pa_nil)))))))
      (pss_one (ps_ret (pv 3)))))), ?_⟩
    refine ⟨_, rfl, rfl, _, rfl, ?_⟩
    rw [dec_int]
    match k, h1 with
    | 1, _ =>
      refine iteT ⟨_, rfl, (by show 1 ≤ sizeLine; decide), fun a ha => ⟨(by show 1 ≤ sizeLine; decide), fun p hp => ?_⟩⟩
      have e1 : (upd H a (.tup [.int t])) a = some (.tup [.int t]) := upd_same
      have nap : a ≠ p := ne_of_none e1 hp
      refine hQ p [(a, [t])] _ ((Same.new ha).trans (Same.new hp)) (none_back (Same.new ha) hp) upd_same (fun q hq => ?_) rfl
      rw [List.mem_singleton.mp hq, upd_ne nap]
      exact e1
    | j + 2, _ =>
      rw [decide_eq_false (show ¬ ((j + 2 : Nat) : Int) = 1 by omega)]
      refine iteF ⟨(by show 0 ≤ sizeLine; decide), fun D hD => ?_⟩
      have tl0 : TL H (upd H D (.lst [])) D [] := TL.new hD
      have hdv : t / ((j + 2 : Nat) : Int) ≤ 40 := by
        by_cases c : 0 ≤ t
        · exact Int.le_trans (Int.ediv_le_self _ c) ht
        · have := Int.ediv_neg_of_neg_of_pos (show t < 0 by omega) (show (0 : Int) < ((j + 2 : Nat) : Int) by omega)
          omega
      have hdv2 : 0 ≤ t / ((j + 2 : Nat) : Int) := Int.ediv_nonneg ht0 (by omega)
      have hdv3 : t / ((j + 2 : Nat) : Int) ≤ t := Int.ediv_le_self _ ht0
      obtain ⟨N, hN⟩ : ∃ N, N = (t / ((j + 2 : Nat) : Int) + 1 - l).toNat := ⟨_, rfl⟩
      generalize upd H D (.lst []) = H1 at tl0 ⊢
      refine ⟨_, rfl, _, rfl, _, rfl, _, _, rfl, rfl, ⟨by omega, by omega⟩, _, _, rfl, rfl, l, _, rfl, ⟨by omega, by omega, by omega, by omega⟩, ?_⟩
      rw [← hN]
      refine for_range (lo := l) (n := N) (fun i σ H2 => ∃ (x4 x5 : Option V) (gs : List Hrow), σ = [some (.int ((j + 2 : Nat) : Int)), some (.int t), some (.int l), some (.ref D), x4, x5] ∧ TL H H2 D gs ∧ gs.map (·.2) = (List.range i).flatMap fun i : Nat => (ascF (j + 1) (t - (l + i)) (l + i)).map fun r => (l + (i : Int)) :: r) ?_ ?_ ?_
      · exact ⟨none, none, [], rfl, tl0, rfl⟩
      · rintro i σ H2 hi ⟨x4, x5, gs, rfl, tl, hg⟩
        have hi2 : l + (i : Int) ≤ 40 := by omega
        refine ⟨_, rfl, _, _, rfl, rfl, _, rfl, _, rfl, _, _, rfl, rfl, _, rfl, j + 1, t - (l + i), l + i, by show [V.int (((j + 2 : Nat) : Int) - 1), V.int (t - (l + i)), V.int (l + i)] = _; rw [show ((j + 2 : Nat) : Int) - 1 = ((j + 1 : Nat) : Int) by omega], by omega, by omega, by omega, by omega, by omega, by omega, by omega, fun lp rs H3 s3 hlp hl3 hr3 hre => ⟨lp, rfl, ⟨_, SqL.of hl3⟩, ?_⟩⟩
        have tl3 := tl.mono s3
        have nlD : lp ≠ D := (ne_of_none tl.ls hlp).symm
        have hlen : ∀ (n : Nat), n ≤ (ascF (j + 1) (t - (l + i)) (l + i)).length → ((List.range i).flatMap fun i : Nat => (ascF (j + 1) (t - (l + i)) (l + i)).map fun r => (l + (i : Int)) :: r).length + n ≤ 41 ^ 4 := fun n hn => by
          have h1 := ascF_len (j + 2) t l ht hl
          have h2 : 41 ^ (j + 2) ≤ 41 ^ 4 := Nat.pow_le_pow_right (by decide) (by omega)
          have h3 : (ascF (j + 2) t l).length = ((List.range N).flatMap fun i : Nat => (ascF (j + 1) (t - (l + i)) (l + i)).map fun r => (l + (i : Int)) :: r).length := by
            rw [hN]
            rfl
          have h4 : (((List.range (i + 1)).flatMap fun i : Nat => (ascF (j + 1) (t - (l + i)) (l + i)).map fun r => (l + (i : Int)) :: r).length) ≤ ((List.range N).flatMap fun i : Nat => (ascF (j + 1) (t - (l + i)) (l + i)).map fun r => (l + (i : Int)) :: r).length := by
            obtain ⟨d, hd⟩ := Nat.exists_eq_add_of_le (show i + 1 ≤ N by omega)
            rw [hd, show List.range (i + 1 + d) = List.range (i + 1) ++ (List.range d).map (i + 1 + ·) from List.range_add .., List.flatMap_append, List.length_append]
            exact Nat.le_add_right _ _
          rw [List.range_succ, List.flatMap_append, List.length_append] at h4
          have h5 : ([i].flatMap fun i : Nat => (ascF (j + 1) (t - (l + i)) (l + i)).map fun r => (l + (i : Int)) :: r).length = (ascF (j + 1) (t - (l + i)) (l + i)).length := by simp
          rw [h5, ← h3] at h4
          have h6 := Nat.le_trans h1 h2
          have h7 := Nat.add_le_add_left hn ((List.range i).flatMap fun i : Nat => (ascF (j + 1) (t - (l + i)) (l + i)).map fun r => (l + (i : Int)) :: r).length
          exact Nat.le_trans h7 (Nat.le_trans h4 h6)
        refine for_list (K := K) (a := lp) (xs := rs.map fun q => V.ref q.1) (fun n σ H4 => ∃ (x5 : Option V) (gs : List Hrow), σ = [some (.int ((j + 2 : Nat) : Int)), some (.int t), some (.int l), some (.ref D), some (.int (l + (i : Int))), x5] ∧ TL H H4 D gs ∧ (gs.map (·.2) = ((List.range i).flatMap fun i : Nat => (ascF (j + 1) (t - (l + i)) (l + i)).map fun r => (l + (i : Int)) :: r) ++ (((ascF (j + 1) (t - (l + i)) (l + i)).take n).map fun r => (l + (i : Int)) :: r)) ∧
          ∀ b u, b ≠ D → H3 b = some u → H4 b = some u) ?_ ?_ ?_ ?_
        · exact ⟨x5, gs, rfl, tl3, by rw [hg]; simp, fun b u _ e => e⟩
        · rintro n σ H4 _ ⟨_, _, _, _, _, k4⟩
          exact SqL.of (k4 _ _ nlD hl3)
        · rintro n x σ H4 hx ⟨x5, gs, rfl, tl4, hg4, k4⟩
          rw [List.getElem?_map] at hx
          obtain ⟨q, hq, rfl⟩ := Option.map_eq_some_iff.mp hx
          have hq3 := hr3 q (List.mem_of_getElem? hq)
          have hq4 := k4 _ _ (ne_of hq3 tl3.ls (by intro z; cases z)) hq3
          have hqa : (ascF (j + 1) (t - (l + i)) (l + i))[n]? = some q.2 := by rw [← hre, List.getElem?_map, hq]; rfl
          have hna := (List.getElem?_eq_some_iff.mp hqa).1
          have hgl : gs.length < sizeLine := by
            have e := congrArg List.length hg4
            have e2 := hlen n (by omega)
            rw [List.length_append, List.length_map, List.length_map, List.length_take] at e
            rw [sizeLine_eq]
            have e3 : 41 ^ 4 = 2825761 := by decide
            omega
          have hql : q.2.length = j + 1 := ascF_mem _ _ _ _ (List.mem_of_getElem? hqa)
          refine ⟨_, rfl, .inl ⟨rfl, _, SqL.of tl4.ls⟩, _, rfl, _, rfl, q.1, _, rfl, .inl (SqT.of hq4), ?_, fun p hp => ?_⟩
          · rw [List.length_cons, List.length_append, List.length_map, sizeLine_eq]
            simp
            omega
          · have tl5 := tl4.mono (Same.new (o := .tup (V.int (l + (i : Int)) :: (q.2.map V.int ++ []))) hp)
            refine ⟨D, _, _, rfl, rfl, tl5.ls, by rw [List.length_map]; exact hgl, ?_⟩
            refine ⟨_, gs ++ [(p, (l + (i : Int)) :: q.2)], rfl, tl5.push (y := (l + (i : Int)) :: q.2) (by rw [upd_same, List.append_nil]; rfl), ?_, fun b u nb e => ?_⟩
            · rw [List.map_append, hg4, List.take_add_one, hqa, List.map_append, List.append_assoc]
              rfl
            · rw [upd_ne nb]
              have e4 := k4 b u nb e
              rw [upd_ne (ne_of_none e4 hp)]
              exact e4
        · rintro σ H4 ⟨x5, gs, rfl, tl4, hg4, k4⟩
          have hrl : (rs.map fun q => V.ref q.1).length = (ascF (j + 1) (t - (l + i)) (l + i)).length := by rw [← hre, List.length_map, List.length_map]
          rw [hrl, List.take_length] at hg4
          refine ⟨_, _, gs, rfl, tl4, ?_⟩
          rw [hg4, List.range_succ, List.flatMap_append]
          simp
      · rintro σ H2 ⟨x4, x5, gs, rfl, tl, hg⟩
        refine ⟨_, rfl, hQ D gs H2 tl.sm tl.nw tl.ls tl.st ?_⟩
        rw [hg, hN]
        rfl
abbrev s_ascending_behind : Stmt := top 35
theorem sc_ascending_behind : FnScope ["heaps", "stand"] ["heaps"] (defScope s_ascending_behind) := ⟨rfl, rfl, rfl, by decide +kernel, rfl, by decide +kernel, by decide +kernel⟩
theorem ok_ascending_behind {f : Addr} {fd : FuncData} (F : Fun K "ascending_behind" "ascending_behind" s_ascending_behind f fd) (T : Tz mg) (C_all_behind : Cal P w K mg base CX0 3 "all_behind" ["heaps"] (spAllBehind K)) : FnOk P w K mg base CX0 4 f fd ["heaps"] (spAscB K) := by
  refine F.ok sc_ascending_behind (fun vs H Q E h => ?_) (fun cdv A outer s H vs Q E hr h => ?_)
  · obtain ⟨t, ns, L, S, rfl, _⟩ := h
    rfl
  · obtain ⟨t, ns, L, S, rfl, hT, hB, hL1, hL6, hS, k⟩ := h
    refine ⟨_, (pss_one (ps_ret (pe_callB (cr_sortedT rfl) (by rfl) T.sorted (by decide +kernel) (pa_cons (pe_scT (own := [("stand", 1)]) (g := gName 1) hr.units (by rfl) sc_ascending_behind.nd (pi_list (pe_cal C_all_behind hr rfl pass0 (pa_cons (pv 0) pa_nil))) (blkOk_by (own := [("stand", 1)]) (N := ["heaps", "stand"]) (sc := defScope s_ascending_behind) (by decide +kernel)) (fun _ _ _ _ _ => ⟨pg_name (i := 1) sc_ascending_behind.nd rfl (Or.inl rfl), pts_nil, (pe_callTy (call_tuple_ofK (K := K) rfl) (by rfl) T.tuple (by decide +kernel) (pa_cons (pe_callB (cr_sortTIK (K := K) rfl) (by rfl) T.sorted (by decide +kernel) (pa_cons (pv 1) pa_nil)) pa_nil))⟩)) pa_nil)))), ?_⟩
    refine ⟨_, rfl, t, ns, rfl, SqT.of hT, by rw [hB.1]; exact hL6, fun la hs H1 s1 hla hP he htr => ⟨la, rfl, ⟨_, SqL.of hP.ls⟩, fun D hD => ?_⟩⟩
    have hnx : hs.map (·.2) = nxS ns := he
    have h36 := nxS_short hB hL6
    refine in_it (walk_list (K := K) (a := la) (xs := hs.map fun q => V.ref q.1)) (fun j H2 => ∃ L' : List (Addr × List Int), H2 D = some (SetTO P w D L') ∧ (∀ p ∈ L', H2 p.1 = some (.tup (p.2.map V.int))) ∧ (∀ x, x ∈ L'.map (·.2) ↔ ∃ y ∈ (nxS ns).take j, x = srtI y) ∧ L'.length ≤ j ∧ ∀ b u, b ≠ D → H1 b = some u → H2 b = some u) ?_ ?_ ?_ ?_
    · exact ⟨[], upd_same, (fun p hp => nomatch hp), fun x => by simp, Nat.le_refl _, fun b u nb e => by rw [upd_ne nb]; exact e⟩
    · rintro j H2 _ ⟨L', _, _, _, _, k2⟩
      exact SqL.of (k2 _ _ (ne_of_none hP.ls hD) hP.ls)
    · rintro j x H2 H2' hj ⟨L', hD2, htr2, hm2, hl2, k2⟩ ⟨e2, hx⟩
      subst e2
      rw [List.getElem?_map] at hx
      obtain ⟨q, hq, rfl⟩ := Option.map_eq_some_iff.mp hx
      have hqm := List.mem_of_getElem? hq
      have hq1 := (htr q hqm).2
      have hq2 := k2 _ _ (ne_of_none hq1 hD) hq1
      have hqn : (nxS ns)[j]? = some q.2 := by rw [← hnx, List.getElem?_map, hq]; rfl
      have hj36 : j < 36 := by
        have := (List.getElem?_eq_some_iff.mp hqn).1
        omega
      refine ⟨rfl, ?_⟩
      refine tyes ?_
      refine iteT ?_
      refine ⟨_, rfl, q.1, q.2, rfl, SqT.of hq2, fun zs p hzp hzs hp => ⟨p, _, rfl, .inl ⟨SqL.of upd_same, fun tt htt => ?_⟩⟩⟩
      have ez := srtI_one hzp hzs
      subst ez
      have s3 : Same H2' (upd (upd H2' p (.lst ((srtI q.2).map V.int))) tt (.tup ((srtI q.2).map V.int))) := (Same.new hp).trans (Same.new htt)
      have ht3 : (upd (upd H2' p (.lst ((srtI q.2).map V.int))) tt (.tup ((srtI q.2).map V.int))) tt = some (.tup ((srtI q.2).map V.int)) := upd_same
      generalize upd (upd H2' p (.lst ((srtI q.2).map V.int))) tt (.tup ((srtI q.2).map V.int)) = H3 at s3 ht3 ⊢
      have hD3 := s3 _ _ hD2
      refine ⟨tt, srtI q.2, L', rfl, SqT.of ht3, hD3, fun p hp => SqT.of (s3 _ _ (htr2 p hp)), by omega, fun L2 c1 c2 => ⟨L2, upd_same, ?_⟩⟩
      have tk : ∀ x, (∃ y ∈ (nxS ns).take (j + 1), x = srtI y) ↔ (∃ y ∈ (nxS ns).take j, x = srtI y) ∨ x = srtI q.2 := fun x => by
        rw [List.take_add_one, hqn]
        constructor
        · rintro ⟨y, hy, e⟩
          rcases List.mem_append.mp hy with z | z
          · exact .inl ⟨y, z, e⟩
          · have : y = q.2 := by simpa using z
            exact .inr (this ▸ e)
        · rintro (⟨y, hy, e⟩ | e)
          · exact ⟨y, List.mem_append_left _ hy, e⟩
          · exact ⟨q.2, List.mem_append_right _ (by simp), e⟩
      have up3 : ∀ b u, b ≠ D → H3 b = some u → (upd H3 D (SetTO P w D L2)) b = some u := fun b u nb e => by rw [upd_ne nb]; exact e
      by_cases hin : srtI q.2 ∈ L'.map (·.2)
      · have e := c1 hin
        subst e
        refine ⟨fun p hp => up3 _ _ (ne_of (s3 _ _ (htr2 p hp)) hD3 (by intro z; cases z)) (s3 _ _ (htr2 p hp)), fun x => ?_, by omega, fun b u nb e => up3 b u nb (s3 _ _ (k2 b u nb e))⟩
        rw [tk, hm2]
        constructor
        · exact .inl
        · rintro (h | h)
          · exact h
          · rw [h]; exact (hm2 _).mp hin
      · have pm := c2 hin
        refine ⟨fun p hp => ?_, fun x => ?_, by rw [pm.length_eq, List.length_cons]; omega, fun b u nb e => up3 b u nb (s3 _ _ (k2 b u nb e))⟩
        · rcases List.mem_cons.mp (pm.mem_iff.mp hp) with z | z
          · rw [z]
            exact up3 _ _ (ne_of ht3 hD3 (by intro z; cases z)) ht3
          · exact up3 _ _ (ne_of (s3 _ _ (htr2 p z)) hD3 (by intro z; cases z)) (s3 _ _ (htr2 p z))
        · rw [tk, ← hm2, (pm.map (·.2)).mem_iff, List.map_cons, List.mem_cons]
          exact or_comm
    · rintro H2 ⟨L', hD2, htr2, hm2, hl2, k2⟩
      have hll : (hs.map fun q => V.ref q.1).length = (nxS ns).length := by rw [← hnx, List.length_map, List.length_map]
      rw [hll, List.take_length] at hm2
      have hx : ∀ p ∈ L', p.2.length = L ∧ TS.Bd 64 p.2 := fun p hp => by
        obtain ⟨y, hy, e⟩ := (hm2 p.2).mp (List.mem_map.mpr ⟨p, hp, rfl⟩)
        have hby := hB.next hy
        rw [e]
        refine ⟨(srtI_perm y).length_eq.trans hby.1, fun n hn => ?_⟩
        have := bx_le hby n ((srtI_perm y).mem_iff.mp hn)
        omega
      refine ⟨D, L', L, 64, rfl, hD2, fun p hp => SqT.of (htr2 p hp), hL1, hx, fun L3 p pm nd _ up hp => ?_⟩
      have kD : ∀ b u, H b = some u → H2 b = some u := fun b u e => k2 b u (ne_of_none (s1 _ _ e) hD) (s1 _ _ e)
      refine k p L3 _ (fun b u e => Same.new hp b u (kD b u e)) ?_ upd_same (fun q hq => Same.new hp _ _ (htr2 q (pm.mem_iff.mp hq))) ⟨nd, fun x => by rw [(pm.map (·.2)).mem_iff]; exact hm2 x, by rw [List.pairwise_map]; exact up⟩
      cases e : H p with
      | none => rfl
      | some u => rw [kD p u e] at hp; cases hp
end
end Hd
set_option maxHeartbeats 8000000
/-! The hardest heaps, and those that come back. -/
namespace Hd
open PySem PySem.Spec PyProof.Rows L2 StX
/-- some steps lead from a to x, all within R -/
inductive Lead (f : Stn → List Stn) (R : List Stn) (a : Stn) : Stn → Prop where
  | one {x : Stn} (h : x ∈ f a) (r : x ∈ R) : Lead f R a x
  | more {y x : Stn} (p : Lead f R a y) (h : x ∈ f y) (r : x ∈ R) : Lead f R a x
theorem Lead.mem {f : Stn → List Stn} {R : List Stn} {a x : Stn} (h : Lead f R a x) : x ∈ R := by
  cases h <;> assumption
/-- what the walk knows: found, and still to be looked at -/
structure LBk (f : Stn → List Stn) (R : List Stn) (a : Stn) (fd ws : List Stn) : Prop where
  nd : fd.Nodup
  ld : ∀ x ∈ fd, Lead f R a x
  wt : ∀ x ∈ ws, x = a ∨ x ∈ fd
  cl : ∀ y, (y = a ∨ y ∈ fd) → y ∈ ws ∨ ∀ x ∈ f y, x ∈ R → x ∈ fd
theorem LBk.all {f : Stn → List Stn} {R : List Stn} {a : Stn} {fd : List Stn} (h : LBk f R a fd []) (x : Stn) : x ∈ fd ↔ Lead f R a x := by
  refine ⟨h.ld x, fun p => ?_⟩
  induction p with
  | one hx r => exact ((h.cl a (.inl rfl)).resolve_left fun z => nomatch z) _ hx r
  | more p hx r ih => exact ((h.cl _ (.inr ih)).resolve_left fun z => nomatch z) _ hx r
/-- .. while the steps of y are looked at, the first of them being done -/
structure LBj (f : Stn → List Stn) (R : List Stn) (a y : Stn) (fd ws : List Stn) (j : Nat) : Prop where
  nd : fd.Nodup
  ld : ∀ x ∈ fd, Lead f R a x
  wt : ∀ x ∈ ws, x = a ∨ x ∈ fd
  cl : ∀ z, (z = a ∨ z ∈ fd) → z ∈ ws ∨ z = y ∨ ∀ x ∈ f z, x ∈ R → x ∈ fd
  dn : ∀ x ∈ (f y).take j, x ∈ R → x ∈ fd
/-- the two objects of the walk -/
structure LBo (H0 H : Hp) (D W : Addr) (fd : List Stn) (ws : List Hrow) : Prop where
  dt : ∃ kv, H D = some (.dT kv) ∧ Dm (fun v (_ : Unit) => v = .bl true) kv (fd.map fun x => (x, ()))
  wl : H W = some (.lst (ws.map fun q => V.ref q.1))
  st : ∀ q ∈ ws, H q.1 = some (.tup (q.2.map V.int))
  ne : D ≠ W
  keep : ∀ b o, b ≠ D → b ≠ W → H0 b = some o → H b = some o
def spLeads (K : PySem.W.Frag) : Sp := fun vs H Q _ => ∃ (t d : Addr) (od : Obj) (ns : Stn) (kvs : List (List L2.Key × V)) (R : List Stn) (f : Stn → List Stn), vs = [.ref t, .ref d] ∧ H t = some (.tup (ns.map V.int)) ∧ H d = some (.frz od (.dT kvs)) ∧ Dm (RowsAt K H) kvs (R.map fun x => (x, f x)) ∧ ns ∈ R ∧ R.length + 1 < sizeLine ∧
  ∀ (b : Bool) (H' : Hp), Same H H' → (b = true ↔ Lead f R ns ns) → Q (.bl b) H'
section
variable {P : Program} {w : World} {K : PySem.W.Frag} {mg : Str → Option Value} {base : Heap}
abbrev s_leads_back : Stmt := top 36
theorem sc_leads_back : FnScope ["heaps", "onward", "found", "waiting", "latest", "stand"] ["heaps", "onward"] (defScope s_leads_back) := ⟨rfl, rfl, rfl, by decide +kernel, rfl, by decide +kernel, by decide +kernel⟩
theorem ok_leads_back {f : Addr} {fd : FuncData} (F : Fun K "leads_back" "leads_back" s_leads_back f fd) : FnOk P w K mg base CX0 1 f fd ["heaps", "onward"] (spLeads K) := by
  refine F.ok sc_leads_back (fun vs H Q E h => ?_) (fun cdv A outer s H vs Q E hr h => ?_)
  · obtain ⟨t, d, od, ns, kvs, R, f, rfl, _⟩ := h
    rfl
  · obtain ⟨t, d, od, ns, kvs, R, f, rfl, hT, hd, hR, hns, hz, k⟩ := h
    have hu := hu_of hr
    refine ⟨_, (pss_cons (ps_set (i := 2) sc_leads_back.nd rfl (Or.inl rfl) (pe_dnewT))
      (pss_cons (ps_set (i := 3) sc_leads_back.nd rfl (Or.inl rfl) (pe_lst (pa_cons (pv 0) pa_nil)))
      (pss_cons (ps_while PassesOwn.never (pt_truL (pv 3)) (pss_cons (ps_set (i := 4) sc_leads_back.nd rfl (Or.inl rfl) (pe_bm0 PySem.F.plainAttrs_list PySem.F.slot_list_pop PySem.F.type_list_pop mt_pop (pv 3)))
      (pss_one (ps_for PassesOwn.never rfl (pi_list (pe_dget hu (pv 1) (pv 4) (fun _ _ => rfl))) (pg_name (i := 5) sc_leads_back.nd rfl (Or.inl rfl))
      (pss_one (ps_if (PW.pt (pw_and (pt_cmp (pc_din hu (pv 5) (pv 1))) (pw_and1 (pt_cmp (pc_dnotin hu (pv 5) (pv 2)))))) (pss_cons (ps_dput hu (pv 2) (pv 5) pe_bl rfl)
      (pss_one (ps_expr (pe_bm PySem.F.plainAttrs_list PySem.F.slot_list_append PySem.F.type_list_append mt_append (pv 3) (pa_cons (pv 5) pa_nil))))) pss_nil))))))
      (pss_one (ps_ret (pe_cmp (pc_din hu (pv 0) (pv 2)))))))), ?_⟩
    intro D hD
    refine ⟨_, rfl, (by show 1 ≤ sizeLine; decide), fun W hW => ?_⟩
    have hD1 : (upd H D (.dT [])) D = some (.dT []) := upd_same
    have nDW : D ≠ W := ne_of_none hD1 hW
    have hWH := none_back (Same.new hD) hW
    have o0 : LBo H (upd (upd H D (.dT [])) W (.lst [.ref t])) D W [] [(t, ns)] := by
      refine ⟨⟨[], by rw [upd_ne nDW]; exact hD1, Dm.mt⟩, upd_same, fun q hq => ?_, nDW, fun b o n1 n2 e => by rw [upd_ne n2, upd_ne n1]; exact e⟩
      rw [List.mem_singleton.mp hq, upd_ne (ne_of_none hT hWH), upd_ne (ne_of_none hT hD)]
      exact hT
    have l0 : LBk f R ns [] [ns] := ⟨List.nodup_nil, (fun x hx => nomatch hx), fun x hx => .inl (by simpa using hx), fun y hy => .inl (by
      rcases hy with h | h
      · simp [h]
      · cases h)⟩
    generalize upd (upd H D (.dT [])) W (.lst [.ref t]) = H1 at o0 ⊢
    have few : ∀ {fd : List Stn}, fd.Nodup → (∀ x ∈ fd, Lead f R ns x) → fd.length ≤ R.length := fun nd h => nodup_le nd fun x hx => (h x hx).mem
    refine ⟨fun (m : Nat) σ H2 => ∃ (fd : List Stn) (ws : List Hrow) (x4 x5 : Option V), σ = [some (.ref t), some (.ref d), some (.ref D), some (.ref W), x4, x5] ∧ LBo H H2 D W fd ws ∧ LBk f R ns fd (ws.map fun q : Hrow => q.2) ∧ m = R.length - fd.length + ws.length ∧ ws.length ≤ fd.length + 1, ⟨R.length - 0 + 1, [], [(t, ns)], none, none, rfl, o0, l0, rfl, by simp⟩, ?_⟩
    rintro m σ H2 ⟨fd, ws, x4, x5, rfl, O, B, rfl, hwf⟩
    refine ⟨_, rfl, _, .inl ⟨_, SqL.of O.wl, rfl⟩, ?_⟩
    obtain ⟨kv, hD2, hm2⟩ := O.dt
    rcases List.eq_nil_or_concat ws with rfl | ⟨wi, q, hwq⟩
    · refine iteF ⟨_, rfl, _, rfl, D, _, rfl, DGet.t (k := kI ns) hD2 (by rw [kI_kV]; exact O.keep _ _ (ne_of_none hT hD) (ne_of_none hT hWH) hT), ?_⟩
      rw [hm2.isSome ns]
      refine k _ H2 (fun b o e => O.keep b o (ne_of_none e hD) (ne_of_none e hWH) e) ?_
      rw [decide_eq_true_eq, ← B.all ns, List.map_map]
      exact ⟨fun h => by
        obtain ⟨x, hx, e⟩ := List.mem_map.mp h
        exact (show x = ns from e) ▸ hx, fun h => List.mem_map.mpr ⟨ns, h, rfl⟩⟩
    · rw [List.concat_eq_append] at hwq
      subst hwq
      rw [show (!((wi ++ [q]).map fun q => V.ref q.1).isEmpty) = true by simp]
      refine iteT ⟨fun σ' H' => ∃ (fd2 : List Stn) (ws2 : List Hrow) (x4 x5 : Option V), σ' = [some (.ref t), some (.ref d), some (.ref D), some (.ref W), x4, x5] ∧ LBo H H' D W fd2 ws2 ∧ LBk f R ns fd2 (ws2.map fun q : Hrow => q.2) ∧ fd2.length + wi.length = fd.length + ws2.length, ?_, ?_⟩
      · rintro σ' H' ⟨fd2, ws2, x4, x5, rfl, O2, B2, hl⟩
        have hwf2 : wi.length ≤ fd.length := by rw [List.length_append, List.length_singleton] at hwf; omega
        refine ⟨R.length - fd2.length + ws2.length, ?_, fd2, ws2, x4, x5, rfl, O2, B2, rfl, by omega⟩
        have h1 := few B2.nd B2.ld
        have h2 := few B.nd B.ld
        rw [List.length_append, List.length_singleton]
        omega
      have hqw := O.st q (by simp)
      have hlast : ((wi ++ [q]).map fun q => V.ref q.1)[((wi ++ [q]).map fun q => V.ref q.1).length - 1]? = some (.ref q.1) := by simp
      refine ⟨_, rfl, .inl ⟨rfl, _, SqL.of O.wl⟩, W, _, _, rfl, rfl, O.wl, hlast, ?_⟩
      have ed : ((wi ++ [q]).map fun q => V.ref q.1).dropLast = wi.map fun q => V.ref q.1 := by simp
      rw [ed]
      have O3 : LBo H (upd H2 W (.lst (wi.map fun q => V.ref q.1))) D W fd wi := ⟨⟨kv, by rw [upd_ne O.ne]; exact hD2, hm2⟩, upd_same, fun p hp => by
        have e := O.st p (by simp [hp])
        rw [upd_ne (ne_of e O.wl (by intro z; cases z))]
        exact e, O.ne, fun b o n1 n2 e => by rw [upd_ne n2]; exact O.keep b o n1 n2 e⟩
      have hq3 : (upd H2 W (.lst (wi.map fun q => V.ref q.1))) q.1 = some (.tup (q.2.map V.int)) := by rw [upd_ne (ne_of hqw O.wl (by intro z; cases z))]; exact hqw
      have hqR : q.2 ∈ R := by
        rcases B.wt q.2 (by simp) with h | h
        · rw [h]; exact hns
        · exact (B.ld _ h).mem
      have hqr : q.2 = ns ∨ q.2 ∈ fd := B.wt q.2 (by simp)
      have J0 : LBj f R ns q.2 fd (wi.map fun q : Hrow => q.2) 0 := ⟨B.nd, B.ld, fun x hx => B.wt x (by rw [List.map_append]; exact List.mem_append_left _ hx), fun z hz => by
        rcases B.cl z hz with h | h
        · rw [List.map_append] at h
          rcases List.mem_append.mp h with h | h
          · exact .inl h
          · exact .inr (.inl (by simpa using h))
        · exact .inr (.inr h), fun x hx => by simp at hx⟩
      generalize upd H2 W (.lst (wi.map fun q => V.ref q.1)) = H3 at O3 hq3 ⊢
      have dD : d ≠ D := ne_of_none hd hD
      have dW : d ≠ W := ne_of_none hd hWH
      have hd3 := O3.keep _ _ dD dW hd
      obtain ⟨b, v, hb, hv, hrow⟩ := hR.on (k := q.2) (List.mem_map.mpr ⟨(q.2, f q.2), List.mem_map.mpr ⟨q.2, hqR, rfl⟩, rfl⟩)
      rw [lookA_map hqR] at hb
      cases hb
      obtain ⟨la, rs, rfl, hla, hrs, hre⟩ := hrow
      have laD : la ≠ D := ne_of_none hla hD
      have laW : la ≠ W := ne_of_none hla hWH
      refine ⟨_, rfl, _, rfl, d, _, rfl, .inr ⟨kvs, kI q.2, q.1, .inr ⟨od, hd3⟩, rfl, by rw [kI_kV]; exact hq3, hv.symm⟩, la, rfl, ⟨_, SqL.of (O3.keep _ _ laD laW hla)⟩, ?_⟩
      refine for_list (K := K) (a := la) (xs := rs.map fun q => V.ref q.1) (fun j σ H4 => ∃ (fd2 : List Stn) (ws2 : List Hrow) (x4 x5 : Option V), σ = [some (.ref t), some (.ref d), some (.ref D), some (.ref W), x4, x5] ∧ LBo H H4 D W fd2 ws2 ∧ LBj f R ns q.2 fd2 (ws2.map fun q : Hrow => q.2) j ∧ (∀ x ∈ fd, x ∈ fd2) ∧ fd2.length + wi.length = fd.length + ws2.length) ?_ ?_ ?_ ?_
      · exact ⟨fd, wi, _, _, rfl, O3, J0, fun x hx => hx, by omega⟩
      · rintro j σ H4 _ ⟨_, _, _, _, _, O4, _⟩
        exact SqL.of (O4.keep _ _ laD laW hla)
      · rintro j x σ H4 hx ⟨fd2, ws2, x4, x5, rfl, O4, J, hsub, hl⟩
        rw [List.getElem?_map] at hx
        obtain ⟨r, hr1, rfl⟩ := Option.map_eq_some_iff.mp hx
        have hrm := hrs r (List.mem_of_getElem? hr1)
        have hr4 := O4.keep _ _ (ne_of_none hrm hD) (ne_of_none hrm hWH) hrm
        have hd4 := O4.keep _ _ dD dW hd
        have hfj : (f q.2)[j]? = some r.2 := by rw [← hre, List.getElem?_map, hr1]; rfl
        obtain ⟨kv4, hD4, hm4⟩ := O4.dt
        have tk : ∀ x, x ∈ (f q.2).take (j + 1) ↔ x ∈ (f q.2).take j ∨ x = r.2 := fun x => by
          rw [List.take_add_one, hfj, List.mem_append]
          simp
        refine ⟨_, rfl, _, rfl, d, _, rfl, .inr ⟨kvs, kI r.2, r.1, .inr ⟨od, hd4⟩, rfl, by rw [kI_kV]; exact hr4, rfl⟩, _, rfl, ?_⟩
        rw [hR.isSome r.2]
        have ek : (R.map fun x => (x, f x)).map (·.1) = R := by rw [List.map_map]; exact List.map_id _
        rw [ek]
        by_cases hrR : r.2 ∈ R
        · rw [decide_eq_true hrR]
          refine iteT ⟨_, rfl, _, rfl, D, _, rfl, DGet.t (k := kI r.2) hD4 (by rw [kI_kV]; exact hr4), _, rfl, ?_⟩
          rw [hm4.isSome r.2]
          have ek4 : (fd2.map fun x => (x, ())).map (·.1) = fd2 := by rw [List.map_map]; exact List.map_id _
          rw [ek4]
          by_cases hin : r.2 ∈ fd2
          · rw [decide_eq_true hin]
            refine iteF ⟨fd2, ws2, _, _, rfl, O4, ⟨J.nd, J.ld, J.wt, J.cl, fun x hx hxR => ?_⟩, hsub, hl⟩
            rcases (tk x).mp hx with h | h
            · exact J.dn x h hxR
            · rw [h]; exact hin
          · rw [decide_eq_false hin]
            refine iteT ?_
            have hwf2 : wi.length ≤ fd.length := by rw [List.length_append, List.length_singleton] at hwf; omega
            have hf2 := few J.nd J.ld
            have hl4 := hm4.len
            rw [List.length_map] at hl4
            refine ⟨_, rfl, _, rfl, D, _, rfl, DPut.t (k := kI r.2) hD4 (by rw [kI_kV]; exact hr4) (by omega), ?_⟩
            have w5 : (upd H4 D (.dT (putK kv4 (kI r.2) (.bl true)))) W = some (.lst (ws2.map fun q => V.ref q.1)) := by rw [upd_ne O4.ne.symm]; exact O4.wl
            refine ⟨_, rfl, .inl ⟨rfl, _, SqL.of w5⟩, _, rfl, W, _, _, rfl, rfl, w5, by rw [List.length_map]; omega, ?_⟩
            have nrD : r.1 ≠ D := ne_of_none hrm hD
            have nrW : r.1 ≠ W := ne_of_none hrm hWH
            have up5 : ∀ b u, b ≠ D → b ≠ W → H4 b = some u → (upd (upd H4 D (.dT (putK kv4 (kI r.2) (.bl true)))) W (.lst ((ws2.map fun q => V.ref q.1) ++ [V.ref r.1]))) b = some u := fun b u n1 n2 e => by rw [upd_ne n2, upd_ne n1]; exact e
            refine ⟨fd2 ++ [r.2], ws2 ++ [r], _, _, rfl, ⟨⟨putK kv4 (kI r.2) (.bl true), by rw [upd_ne O4.ne, upd_same], ?_⟩, by rw [upd_same, List.map_append]; rfl, fun p hp => ?_, O4.ne, fun b o n1 n2 e => up5 b o n1 n2 (O4.keep b o n1 n2 e)⟩, ⟨?_, fun x hx => ?_, fun x hx => ?_, fun z hz => ?_, fun x hx hxR => ?_⟩, fun x hx => List.mem_append_left _ (hsub x hx), by simp only [List.length_append, List.length_singleton]; omega⟩
            · have hp := hm4.put r.2 (v := .bl true) (b := ()) rfl
              rw [put_new (by rw [ek4]; exact hin)] at hp
              rw [List.map_append]
              exact hp
            · rcases List.mem_append.mp hp with hp | hp
              · have e := O4.st p hp
                exact up5 _ _ (ne_of e hD4 (by intro z; cases z)) (ne_of e O4.wl (by intro z; cases z)) e
              · rw [List.mem_singleton.mp hp]
                exact up5 _ _ nrD nrW hr4
            · rw [List.nodup_append]
              refine ⟨J.nd, by simp, fun a ha b hb e => hin ?_⟩
              rw [← List.mem_singleton.mp hb, ← e]
              exact ha
            · rcases List.mem_append.mp hx with hx | hx
              · exact J.ld x hx
              · rw [List.mem_singleton.mp hx]
                have hrf := List.mem_of_getElem? hfj
                rcases hqr with h | h
                · rw [h] at hrf
                  exact .one hrf hrR
                · exact .more (B.ld _ h) hrf hrR
            · rw [List.map_append] at hx
              rcases List.mem_append.mp hx with hx | hx
              · rcases J.wt x hx with h | h
                · exact .inl h
                · exact .inr (List.mem_append_left _ h)
              · exact .inr (List.mem_append_right _ (by simpa using hx))
            · rw [List.map_append]
              have old : (z = ns ∨ z ∈ fd2) → z ∈ (ws2.map fun q : Hrow => q.2) ++ [r].map (fun q : Hrow => q.2) ∨ z = q.2 ∨ ∀ x ∈ f z, x ∈ R → x ∈ fd2 ++ [r.2] := fun h => by
                rcases J.cl z h with h | h | h
                · exact .inl (List.mem_append_left _ h)
                · exact .inr (.inl h)
                · exact .inr (.inr fun x hx hxR => List.mem_append_left _ (h x hx hxR))
              rcases hz with h | h
              · exact old (.inl h)
              · rcases List.mem_append.mp h with h | h
                · exact old (.inr h)
                · exact .inl (List.mem_append_right _ (by simpa using h))
            · rcases (tk x).mp hx with h | h
              · exact List.mem_append_left _ (J.dn x h hxR)
              · exact List.mem_append_right _ (by simp [h])
        · rw [decide_eq_false hrR]
          refine iteF (iteF ⟨fd2, ws2, _, _, rfl, O4, ⟨J.nd, J.ld, J.wt, J.cl, fun x hx hxR => ?_⟩, hsub, hl⟩)
          rcases (tk x).mp hx with h | h
          · exact J.dn x h hxR
          · rw [h] at hxR; exact absurd hxR hrR
      · rintro σ H4 ⟨fd2, ws2, x4, x5, rfl, O4, J, hsub, hl⟩
        have hrl : (rs.map fun q => V.ref q.1).length = (f q.2).length := by rw [← hre, List.length_map, List.length_map]
        rw [hrl] at J
        refine ⟨fd2, ws2, _, _, rfl, O4, ⟨J.nd, J.ld, J.wt, fun z hz => ?_⟩, hl⟩
        rcases J.cl z hz with h | h | h
        · exact .inl h
        · refine .inr fun x hx hxR => J.dn x ?_ hxR
          rw [h] at hx
          rw [List.take_length]
          exact hx
        · exact .inr h
end
end Hd
set_option maxHeartbeats 8000000
/-! The heaps that come back. -/
namespace Hd
open PySem PySem.Spec PyProof.Rows L2 StX
/-- what stands in ascending heaps -/
theorem ascF_in : ∀ (m : Nat) (t l : Int), 1 ≤ m → 0 ≤ l → (m : Int) * l ≤ t → ∀ x ∈ ascF m t l, x.sum = t ∧ ∀ n ∈ x, l ≤ n
  | 0, _, _, h, _, _, _, _ => absurd h (by decide)
  | 1, t, l, _, _, hl, x, hx => by
    simp only [ascF, List.mem_singleton] at hx
    subst hx
    refine ⟨by simp, fun n hn => ?_⟩
    rw [List.mem_singleton.mp hn]
    omega
  | m + 2, t, l, _, h0, hl, x, hx => by
    unfold ascF at hx
    obtain ⟨i, hi, hx⟩ := List.mem_flatMap.mp hx
    obtain ⟨r, hr, rfl⟩ := List.mem_map.mp hx
    have hi := List.mem_range.mp hi
    have h1 : l + (i : Int) ≤ t / ((m + 2 : Nat) : Int) := by omega
    have h2 : ((m + 2 : Nat) : Int) * (l + i) ≤ t := by
      have := Int.mul_le_of_le_ediv (c := ((m + 2 : Nat) : Int)) (by omega) h1
      rw [Int.mul_comm]
      exact this
    have h3 : ((m + 1 : Nat) : Int) * (l + i) ≤ t - (l + i) := by
      have e : ((m + 2 : Nat) : Int) * (l + i) = ((m + 1 : Nat) : Int) * (l + i) + (l + i) := by
        rw [show ((m + 2 : Nat) : Int) = ((m + 1 : Nat) : Int) + 1 by omega, Int.add_mul, Int.one_mul]
      omega
    obtain ⟨a, b⟩ := ascF_in (m + 1) (t - (l + i)) (l + i) (by omega) (by omega) h3 r hr
    refine ⟨by rw [List.sum_cons, a]; omega, fun n hn => ?_⟩
    rcases List.mem_cons.mp hn with z | z
    · omega
    · have := b n z
      omega
theorem nodup_fm {α : Type} (g : Nat → List α) (h1 : ∀ i, (g i).Nodup) (h2 : ∀ i j x, i ≠ j → x ∈ g i → x ∈ g j → False) : ∀ xs : List Nat, xs.Nodup → (xs.flatMap g).Nodup
  | [], _ => by simp
  | i :: xs, nd => by
    rw [List.nodup_cons] at nd
    rw [List.flatMap_cons, List.nodup_append]
    refine ⟨h1 i, nodup_fm g h1 h2 xs nd.2, fun a ha b hb e => ?_⟩
    subst e
    obtain ⟨j, hj, hx⟩ := List.mem_flatMap.mp hb
    exact h2 i j a (fun e => nd.1 (e ▸ hj)) ha hx
theorem ascF_nd : ∀ (m : Nat) (t l : Int), (ascF m t l).Nodup
  | 0, _, _ => by simp [ascF]
  | 1, _, _ => by simp [ascF]
  | m + 2, t, l => by
    unfold ascF
    refine nodup_fm _ (fun i => ?_) (fun i j x hij hx hy => ?_) _ List.nodup_range
    · exact List.Pairwise.map _ (fun a b h e => h (List.cons.inj e).2) (ascF_nd (m + 1) _ _)
    · obtain ⟨r, _, rfl⟩ := List.mem_map.mp hx
      obtain ⟨r2, _, e⟩ := List.mem_map.mp hy
      have := (List.cons.inj e).1
      exact hij (by omega)
theorem ascF_bx {m : Nat} {t : Int} (hm : 1 ≤ m) (ht : (m : Int) ≤ t) : ∀ x ∈ ascF m t 1, Bx m t x ∧ (0 : Int) ∉ x := fun x hx => by
  obtain ⟨a, b⟩ := ascF_in m t 1 hm (by decide) (by omega) x hx
  refine ⟨⟨ascF_mem m t 1 x hx, fun k => ?_, a⟩, fun z => by have := b 0 z; omega⟩
  by_cases hk : k < x.length
  · rw [List.getD_eq_getElem?_getD, List.getElem?_eq_getElem hk]
    have := b x[k] (List.getElem_mem hk)
    show 0 ≤ x[k]
    omega
  · rw [List.getD_eq_getElem?_getD, List.getElem?_eq_none (by omega)]
    exact Int.le_refl 0
theorem told_fun {tl : List (Stn × List Stn)} (nd : (tl.map (·.1)).Nodup) : tl = (tl.map (·.1)).map fun x => (x, (lookA tl x).getD []) := by
  rw [List.map_map]
  refine (List.map_id tl).symm.trans (List.map_congr_left fun q hq => ?_)
  show q = (q.1, (lookA tl q.1).getD [])
  rw [lookA_at nd (show (q.1, q.2) ∈ tl from hq)]
  rfl
def spChkMT (K : PySem.W.Frag) (M T : Addr) : Sp := fun vs H Q E => ∃ (v1 v2 : V) (d1 d2 : PyData), vs = [v1, v2] ∧ Dp K H v1 d1 ∧ Dp K H v2 d2 ∧ (isIntD 3 4 d1 = false → E (.ref M) none H) ∧
  (isIntD 3 4 d1 = true → isIntD (intD d1) 40 d2 = false → E (.ref T) none H) ∧ (isIntD 3 4 d1 = true → isIntD (intD d1) 40 d2 = true → Q .non H)
/-- the heaps that come back, in order -/
def spReturning (K : PySem.W.Frag) (M T : Addr) : Sp := fun vs H Q E => ∃ (v1 v2 : V) (d1 d2 : PyData), vs = [v1, v2] ∧ Dp K H v1 d1 ∧ Dp K H v2 d2 ∧ (isIntD 3 4 d1 = false → E (.ref M) none H) ∧
  (isIntD 3 4 d1 = true → isIntD (intD d1) 40 d2 = false → E (.ref T) none H) ∧
  ∀ (m : Nat) (t : Int), d1 = .int (m : Int) → d2 = .int t → 3 ≤ m → m ≤ 4 → (m : Int) ≤ t → t ≤ 40 → ∀ (l : Addr) (hs : List Hrow) (p : Stn → Bool) (f : Stn → List Stn) (H' : Hp), NX H H' → Nu H l → H' l = some (.lst (hs.map fun q => V.ref q.1)) → (∀ q ∈ hs, H' q.1 = some (.tup (q.2.map V.int))) →
    (∀ x ∈ ascF m t 1, AscB x (f x)) → (∀ x ∈ ascF m t 1, p x = true ↔ Lead f (ascF m t 1) x x) → hs.map (·.2) = (ascF m t 1).filter p → Q (.ref l) H'
section
variable {P : Program} {w : World} {K : PySem.W.Frag} {mg : Str → Option Value} {base : Heap}
abbrev s_check_many_and_total : Stmt := top 33
theorem sc_check_many_and_total : FnScope ["many", "total"] ["many", "total"] (defScope s_check_many_and_total) := ⟨rfl, rfl, rfl, by decide +kernel, rfl, by decide +kernel, by decide +kernel⟩
theorem ok_check_many_and_total {f M TT : Addr} {fd : FuncData} (F : Fun K "check_many_and_total" "check_many_and_total" s_check_many_and_total f fd) (T : Thd mg) (hGT : ∃ t, mg "GREATEST_TOTAL" = some (.int 40 t)) (BM : NilX P K mg "BadMany" M) (BT : NilX P K mg "BadTotal" TT) (C_is_integer : Cal P w K mg base CX0 1 "is_integer" ["value", "least", "greatest"] (spIsInt K)) : FnOk P w K mg base (L2.CX P w) 3 f fd ["many", "total"] (spChkMT K M TT) := by
  refine F.okX sc_check_many_and_total (fun vs H Q E h => ?_) (fun cdv A outer s H vs Q E hr h => ?_)
  · obtain ⟨v1, v2, d1, d2, rfl, _⟩ := h
    rfl
  · obtain ⟨v1, v2, d1, d2, rfl, h1, h2, k1, k2, k3⟩ := h
    refine ⟨_, (pss_cons (ps_if (pt_not (pt_val (pe_cal C_is_integer hr rfl pass0 (pa_cons (pv 0) (pa_cons (pe_gint rfl T.lm) (pa_cons (pe_gint rfl T.gm) pa_nil)))))) (pss_one (ps_raise rfl (takes_of rfl rfl rfl rfl) (pmk_nil BM (hr.mono (by decide : 1 ≤ 2)) rfl))) pss_nil)
      (pss_one (ps_if (pt_not (pt_val (pe_cal C_is_integer hr rfl pass0 (pa_cons (pv 1) (pa_cons (pv 0) (pa_cons (pe_gint rfl hGT) pa_nil)))))) (pss_one (ps_raise rfl (takes_of rfl rfl rfl rfl) (pmk_nil BT (hr.mono (by decide : 1 ≤ 2)) rfl))) pss_nil))), ?_⟩
    refine ⟨_, rfl, v1, d1, 3, 4, rfl, h1, _, rfl, ?_⟩
    cases c1 : isIntD 3 4 d1 with
    | false => exact iteT (k1 c1)
    | true =>
      obtain ⟨i, rfl, _, _⟩ := isInt_eq c1
      cases h1
      refine iteF ⟨_, rfl, _, rfl, v2, d2, i, 40, rfl, h2, _, rfl, ?_⟩
      cases c2 : isIntD i 40 d2 with
      | false => exact iteT (k2 c1 c2)
      | true => exact iteF (k3 c1 c2)
abbrev s_returning : Stmt := top 32
theorem sc_returning : FnScope ["many", "total", "onward", "heaps"] ["many", "total"] (defScope s_returning) := ⟨rfl, rfl, rfl, by decide +kernel, rfl, by decide +kernel, by decide +kernel⟩
theorem ok_returning {f M TT : Addr} {fd : FuncData} (F : Fun K "returning" "returning" s_returning f fd) (C_check_many_and_total : Cal P w K mg base (L2.CX P w) 3 "check_many_and_total" ["many", "total"] (spChkMT K M TT)) (C_ascending_heaps : Cal P w K mg base CX0 5 "ascending_heaps" ["many", "total", "least"] (spAsc K 4)) (C_ascending_behind : Cal P w K mg base CX0 4 "ascending_behind" ["heaps"] (spAscB K)) (C_leads_back : Cal P w K mg base CX0 1 "leads_back" ["heaps", "onward"] (spLeads K)) : FnOk P w K mg base (L2.CX P w) 6 f fd ["many", "total"] (spReturning K M TT) := by
  refine F.okX sc_returning (fun vs H Q E h => ?_) (fun cdv A outer s H vs Q E hr h => ?_)
  · obtain ⟨v1, v2, d1, d2, rfl, _⟩ := h
    rfl
  · obtain ⟨v1, v2, d1, d2, rfl, h1, h2, k1, k2, k3⟩ := h
    have hu := hu_of hr
    refine ⟨_, (pss_cons (ps_expr (pe_cal C_check_many_and_total hr rfl (passes_call (takes_of rfl rfl rfl rfl) (fun _ _ _ _ h => h)) (pa_cons (pv 0) (pa_cons (pv 1) pa_nil))))
      (pss_cons (ps_frz (ps_set (i := 2) sc_returning.nd rfl (Or.inr rfl) (pe_dcT (own := [("heaps", 3)]) (g := gName 3) hu (by rfl) sc_returning.nd (pi_list (pe_cal C_ascending_heaps hr rfl pass0 (pa_cons (pv 0) (pa_cons (pv 1) (pa_cons pe_int pa_nil))))) (blkOk_by (own := [("heaps", 3)]) (N := ["many", "total", "onward", "heaps"]) (sc := defScope s_returning) (by decide +kernel)) (fun _ _ _ _ _ => ⟨pg_name (i := 3) sc_returning.nd rfl (Or.inl rfl), pts_nil, (pv 3), (pe_cal C_ascending_behind hr rfl pass0 (pa_cons (pv 3) pa_nil))⟩))))
      (pss_one (ps_ret (pe_lc (own := [("heaps", 3)]) (g := gName 3) (by rfl) sc_returning.nd (pi_keys (pv 2)) (blkOk_by (own := [("heaps", 3)]) (N := ["many", "total", "onward", "heaps"]) (sc := defScope s_returning) (by decide +kernel)) (fun _ _ _ _ _ => pg_name (i := 3) sc_returning.nd rfl (Or.inl rfl)) (fun _ _ _ _ _ => pts_one (pt_val (pe_cal C_leads_back hr rfl pass0 (pa_cons (pv 3) (pa_cons (pv 2) pa_nil))))) (fun _ _ _ _ _ => (pv 3))))))), ?_⟩
    refine ⟨_, rfl, _, rfl, v1, v2, d1, d2, rfl, h1, h2, k1, k2, fun g1 g2 => ?_⟩
    obtain ⟨m0, rfl, hm3, hm4⟩ := isInt_eq g1
    obtain ⟨t, rfl, ht1, ht2⟩ := isInt_eq g2
    have ht1 : m0 ≤ t := ht1
    obtain ⟨m, rfl⟩ := Int.eq_ofNat_of_zero_le (show 0 ≤ m0 by omega)
    cases h1
    cases h2
    have k4 := k3 m t rfl rfl (by omega) (by omega) ht1 ht2
    obtain ⟨R, hR⟩ : ∃ R, R = ascF m t 1 := ⟨_, rfl⟩
    rw [← hR] at k4
    have bxR : ∀ x ∈ R, Bx m t x ∧ (0 : Int) ∉ x := fun x hx => ascF_bx (by omega) ht1 x (hR ▸ hx)
    have ndR : R.Nodup := hR ▸ ascF_nd m t 1
    have lnR : R.length + 1 < sizeLine := by
      have h1 := ascF_len m t 1 ht2 (by decide)
      have h2 : 41 ^ m ≤ 41 ^ 4 := Nat.pow_le_pow_right (by decide) (by omega)
      rw [← hR] at h1
      rw [sizeLine_eq]
      have h3 : 41 ^ 4 = 2825761 := by decide
      omega
    refine ⟨_, rfl, _, rfl, m, t, 1, rfl, by omega, by omega, by omega, ht2, by omega, by decide, by decide, fun lp hs H1 s1 hlp hl1 ht1' he => ⟨lp, rfl, ⟨_, SqL.of hl1⟩, fun D hD => ?_⟩⟩
    rw [← hR] at he
    have hlD : lp ≠ D := ne_of_none hl1 hD
    have hrl : (hs.map fun q => V.ref q.1).length = R.length := by rw [← he, List.length_map, List.length_map]
    refine dcT_it (walk_list (K := K) (a := lp) (xs := hs.map fun q => V.ref q.1)) (fun j H2 => ∃ (kvs : List (List L2.Key × V)) (tl : List (Stn × List Stn)), H2 D = some (.dT kvs) ∧ Dm (RowsAt K H2) kvs tl ∧ tl.map (·.1) = R.take j ∧ (∀ q ∈ tl, AscB q.1 q.2) ∧ ∀ b u, b ≠ D → H1 b = some u → H2 b = some u) ⟨[], [], upd_same, Dm.mt, rfl, (fun q hq => nomatch hq), fun b u nb e => by rw [upd_ne nb]; exact e⟩ ?_ ?_ ?_
    · rintro j H2 _ ⟨kvs, tl, _, _, _, _, k2⟩
      exact SqL.of (k2 _ _ hlD hl1)
    · rintro j x H2 H2' hj ⟨kvs, tl, hD2, hm2, hk2, ha2, k2⟩ ⟨e2, hx⟩
      subst e2
      rw [List.getElem?_map] at hx
      obtain ⟨q, hq, rfl⟩ := Option.map_eq_some_iff.mp hx
      have hqm := List.mem_of_getElem? hq
      have hRj : R[j]? = some q.2 := by rw [← he, List.getElem?_map, hq]; rfl
      have hqR := List.mem_of_getElem? hRj
      have hq1 := ht1' q hqm
      have hq2 := k2 _ _ (ne_of_none hq1 hD) hq1
      refine ⟨rfl, ?_⟩
      refine tyes ?_
      refine iteT ?_
      refine ⟨_, rfl, _, rfl, q.1, q.2, m, t, rfl, hq2, (bxR _ hqR).1, by omega, by omega, ht2, fun l rs H4 s4 hl4 hls4 hst4 hA => ?_⟩
      have hD4 := s4 _ _ hD2
      have hnk : q.2 ∉ tl.map (·.1) := fun z => by
        rw [hk2] at z
        obtain ⟨j2, hj2, e3⟩ := List.mem_iff_getElem.mp z
        rw [List.length_take] at hj2
        rw [List.getElem_take] at e3
        have := nodup_at ndR (i := j2) (j := j) (by rw [List.getElem?_eq_getElem (by omega), e3]) hRj
        omega
      refine ⟨kvs, kI q.2, q.1, rfl, by rw [kI_kV]; exact s4 _ _ hq2, hD4, ?_, putK kvs (kI q.2) (.ref l), tl ++ [(q.2, rs.map (·.2))], upd_same, ?_, ?_, fun z hz => ?_, fun b u nb e => by rw [upd_ne nb]; exact s4 _ _ (k2 b u nb e)⟩
      · have e := hm2.len
        have e2 := congrArg List.length hk2
        rw [List.length_map, List.length_take] at e2
        omega
      · have hp := (hm2.imp fun v b r => RowsAt.same s4 r).put q.2 (v := .ref l) (b := rs.map (·.2)) ⟨l, rs, rfl, hls4, hst4, rfl⟩
        rw [put_new hnk] at hp
        exact hp.imp fun v b r => RowsAt.but hD4 (fun _ z => nomatch z) (fun _ z => nomatch z) (fun c u nc e => by rw [upd_ne nc]; exact e) r
      · rw [List.map_append, hk2, List.take_add_one, hRj]
        rfl
      · rcases List.mem_append.mp hz with hz | hz
        · exact ha2 z hz
        · rw [List.mem_singleton.mp hz]
          exact hA
    · rintro H2 ⟨kvs, tl, hD2, hm2, hk2, ha2, k2⟩
      rw [hrl, List.take_length] at hk2
      have ndt : (tl.map (·.1)).Nodup := by rw [hk2]; exact ndR
      obtain ⟨f, hf⟩ : ∃ f : Stn → List Stn, f = fun x => (lookA tl x).getD [] := ⟨_, rfl⟩
      have htl : tl = R.map fun x => (x, f x) := by
        have e := told_fun ndt
        rw [hk2] at e
        rw [hf]
        exact e
      have hfA : ∀ x ∈ R, AscB x (f x) := fun x hx => ha2 (x, f x) (by rw [htl]; exact List.mem_map.mpr ⟨x, hx, rfl⟩)
      rw [htl] at hm2
      refine ⟨D, _, hD2, True.intro, fun od => ?_⟩
      have hD3 : (upd H2 D (.frz od (.dT kvs))) D = some (.frz od (.dT kvs)) := upd_same
      have hm3 : Dm (RowsAt K (upd H2 D (.frz od (.dT kvs)))) kvs (R.map fun x => (x, f x)) := hm2.imp fun v b r => RowsAt.but hD2 (fun _ z => nomatch z) (fun _ z => nomatch z) (fun c u nc e => by rw [upd_ne nc]; exact e) r
      have s3 : Same H (upd H2 D (.frz od (.dT kvs))) := fun b u e => by
        have nb := ne_of_none (s1 _ _ e) hD
        rw [upd_ne nb]
        exact k2 b u nb (s1 _ _ e)
      generalize upd H2 D (.frz od (.dT kvs)) = H3 at hD3 hm3 s3 ⊢
      have hkl : kvs.length = R.length := by have e := hm3.len; rw [List.length_map] at e; exact e
      obtain ⟨p, hp⟩ : ∃ p : Stn → Bool, ∀ x, p x = true ↔ Lead f R x x := ⟨fun x => @decide (Lead f R x x) (Classical.propDecidable _), fun x => by simp⟩
      refine ⟨_, rfl, D, od, rfl, .inr ⟨kvs, hD3, fun a ha => lc_it (walk_keysT (d := D) (o := od) (kvs := kvs)) (fun j H4 => ∃ hs : List Hrow, TL H3 H4 a hs ∧ hs.map (·.2) = (R.take j).filter p) ⟨[], TL.new ha, rfl⟩ ?_ ?_ ?_⟩⟩
      · rintro j H4 _ ⟨gs, tg, _⟩
        exact tg.sm _ _ hD3
      · rintro j x H4 H4' hj ⟨gs, tg, hg⟩ ⟨e6, kk, vv, q, hkv, rfl, hq⟩
        subst e6
        obtain ⟨y, b, hy, rfl, hr5⟩ := hm3.get hkv
        rw [kI_kV] at hq
        have hyR : R[j]? = some y := by
          rw [List.getElem?_map] at hy
          obtain ⟨x, hx, e⟩ := Option.map_eq_some_iff.mp hy
          rw [hx, (Prod.mk.inj e).1]
        have hlen : gs.length < sizeLine := by
          have e1 := congrArg List.length hg
          have e2 := List.length_filter_le p (R.take j)
          rw [List.length_take] at e2
          rw [List.length_map] at e1
          omega
        rw [filter_take hyR]
        refine ⟨rfl, _, rfl, _, rfl, q, D, od, y, kvs, R, f, rfl, hq, tg.sm _ _ hD3, hm3.imp fun v b r => RowsAt.same tg.sm r, List.mem_of_getElem? hyR, lnR, fun b H5 s5 hb => ⟨_, rfl, ?_⟩⟩
        have hbp : b = p y := by rw [Bool.eq_iff_iff, hb, hp y]
        have tg5 := tg.mono s5
        rw [hbp]
        cases hpy : p y with
        | true =>
          refine iteT ⟨_, rfl, _, tg5.ls, by rw [List.length_map]; exact hlen, gs ++ [(q, y)], tg5.push (s5 _ _ hq), ?_⟩
          rw [if_pos rfl, List.map_append, hg]
          rfl
        | false =>
          refine iteF ⟨gs, tg5, ?_⟩
          rw [if_neg (by decide), List.append_nil]
          exact hg
      · rintro H4 ⟨gs, tg, hg⟩
        rw [hkl, List.take_length] at hg
        exact k4 a gs p f H4 (NX.of (s3.trans tg.sm)) (nu_of (NX.of s3) ha) tg.ls tg.st hfA (fun x _ => hp x) hg
end
end Hd
set_option maxHeartbeats 8000000
/-! The hardest heaps. -/
namespace Hd
open PySem PySem.Spec PyProof.Rows L2 StX
def spFewestC (K : PySem.W.Frag) : Sp := fun vs H Q _ => ∃ (t : Addr) (ns : Stn), vs = [.ref t] ∧ H t = some (.tup (ns.map V.int)) ∧ hpsB ns = true ∧ smlB ns = true ∧ ∀ n, Frs ns n → ∀ (H' : Hp), NX H H' → Q (oNat (few0 ns n)) H'
theorem fewest_good {K : PySem.W.Frag} {C G : Addr} {vs : List V} {H : Hp} {Q : VK} {E : XK} (h : spFewestC K vs H Q E) : spFewest K C G vs H Q E0 := by
  obtain ⟨t, ns, rfl, hT, hb, hs, k⟩ := h
  refine ⟨_, _, rfl, dp_I (SqT.of hT), fun z => (by rw [hpsD_of hb] at z; cases z), fun ns' e hb' => ?_⟩
  have e := dI_inj e
  subst e
  exact ⟨fun z => (by rw [hs] at z; cases z), fun _ => ⟨⟨t, rfl, hT⟩, k⟩⟩
theorem ascF_ne : ∀ (m : Nat) (t l : Int), 1 ≤ m → 0 ≤ l → (m : Int) * l ≤ t → ascF m t l ≠ []
  | 0, _, _, h, _, _ => absurd h (by decide)
  | 1, t, l, _, _, _ => by simp [ascF]
  | m + 2, t, l, _, h0, hl => by
    unfold ascF
    have h1 : l ≤ t / ((m + 2 : Nat) : Int) := Int.le_ediv_of_mul_le (by omega) (by rw [Int.mul_comm]; exact hl)
    have h3 : ((m + 1 : Nat) : Int) * l ≤ t - l := by
      have e : ((m + 2 : Nat) : Int) * l = ((m + 1 : Nat) : Int) * l + l := by
        rw [show ((m + 2 : Nat) : Int) = ((m + 1 : Nat) : Int) + 1 by omega, Int.add_mul, Int.one_mul]
      omega
    have ih := ascF_ne (m + 1) (t - l) l (by omega) h0 h3
    intro z
    obtain ⟨r, hr⟩ := List.exists_mem_of_ne_nil _ ih
    have : l :: r ∈ (List.range (t / ((m + 2 : Nat) : Int) + 1 - l).toNat).flatMap fun i : Nat => (ascF (m + 1) (t - (l + i)) (l + i)).map fun r => (l + (i : Int)) :: r := List.mem_flatMap.mpr ⟨0, List.mem_range.mpr (by omega), by
      simp only [Int.natCast_zero, Int.add_zero]
      exact List.mem_map.mpr ⟨r, hr, rfl⟩⟩
    rw [z] at this
    cases this
/-- the pairs of a locked dict, walked -/
theorem walk_itemsT {d : Addr} {o : Obj} {kvs : List (List L2.Key × V)} : Walk (Itit d o kvs) kvs.length (fun H => H d = some (.frz o (.dT kvs))) (fun i H x H' => ∃ T k v q, kvs[i]? = some (k, v) ∧ x = .ref T ∧ H T = none ∧ H q = some (.tup (List.map kV k)) ∧ H' = upd H T (.tup [.ref q, v])) where
  goes := fun i H hi h => ⟨h, hi⟩
  yields := fun i H x H' hi h y => y
  stops := fun H h => ⟨h, Nat.le_refl _⟩
theorem Dm.ints {kvs : List (List L2.Key × V)} {m : List (Stn × Nat)} (h : Dm IntIs kvs m) : kvs.map (·.2) = ((m.map (·.2)).map fun k : Nat => (k : Int)).map V.int := by
  induction h with
  | nil => rfl
  | cons z t ih => rw [List.map_cons, List.map_cons, List.map_cons, List.map_cons, ih, z.2]
theorem told_nat {tl : List (Stn × Nat)} (nd : (tl.map (·.1)).Nodup) : tl = (tl.map (·.1)).map fun x => (x, (lookA tl x).getD 0) := by
  rw [List.map_map]
  refine (List.map_id tl).symm.trans (List.map_congr_left fun q hq => ?_)
  show q = (q.1, (lookA tl q.1).getD 0)
  rw [lookA_at nd (show (q.1, q.2) ∈ tl from hq)]
  rfl
/-- the greatest number, and the heaps that have it -/
def spHardest (K : PySem.W.Frag) (M T : Addr) : Sp := fun vs H Q E => ∃ (v1 v2 : V) (d1 d2 : PyData), vs = [v1, v2] ∧ Dp K H v1 d1 ∧ Dp K H v2 d2 ∧ (isIntD 3 4 d1 = false → E (.ref M) none H) ∧
  (isIntD 3 4 d1 = true → isIntD (intD d1) 40 d2 = false → E (.ref T) none H) ∧
  ∀ (m : Nat) (t : Int), d1 = .int (m : Int) → d2 = .int t → 3 ≤ m → m ≤ 4 → (m : Int) ≤ t → t ≤ 40 → ∀ (a l : Addr) (hs : List Hrow) (g : Stn → Nat) (b : Nat) (H' : Hp), NX H H' → Nu H a → Nu H l → (∀ x ∈ ascF m t 1, ∃ n, Frs x n ∧ few0 x n = some (g x)) → b ∈ (ascF m t 1).map g → (∀ x ∈ ascF m t 1, g x ≤ b) → H' a = some (.tup [.int (b : Int), .ref l]) →
      H' l = some (.lst (hs.map fun q => V.ref q.1)) → (∀ q ∈ hs, H' q.1 = some (.tup (q.2.map V.int))) → hs.map (·.2) = (ascF m t 1).filter (fun x => decide (g x = b)) → Q (.ref a) H'
theorem asc_good {m : Nat} {t : Int} {x : Stn} (hm : 3 ≤ m) (hm4 : m ≤ 4) (ht : t ≤ 40) (h : Bx m t x ∧ (0 : Int) ∉ x) : hpsB x = true ∧ smlB x = true := by
  obtain ⟨hB, h0⟩ := h
  have hle := bx_le hB
  have hpos : 0 < x.sum := by
    have hl := hB.1
    cases x with
    | nil => simp at hl; omega
    | cons a r =>
      have ha := hle a (by simp)
      have ha0 : a ≠ 0 := fun z => h0 (by simp [z])
      rw [hB.2.2]
      omega
  refine ⟨?_, ?_⟩
  · unfold hpsB
    rw [decide_eq_true (show 2 ≤ x.length by rw [hB.1]; omega), decide_eq_true (show x.length ≤ 6 by rw [hB.1]; omega), decide_eq_true hpos]
    simp only [Bool.true_and, Bool.and_true]
    refine List.all_eq_true.mpr fun y hy => ?_
    obtain ⟨n, hn, rfl⟩ := List.mem_map.mp hy
    have := hle n hn
    have h30 : (40 : Int) ≤ 10 ^ 30 := by decide
    unfold inR
    simp only [id, Bool.and_eq_true, decide_eq_true_eq]
    omega
  · unfold smlB
    rw [decide_eq_true (show x.length ≤ 4 by rw [hB.1]; omega), decide_eq_true (show x.sum ≤ 40 by rw [hB.2.2]; omega)]
    rfl
section
variable {P : Program} {w : World} {K : PySem.W.Frag} {mg : Str → Option Value} {base : Heap}
abbrev s_hardest : Stmt := top 31
theorem sc_hardest : FnScope ["many", "total", "numbers", "greatest", "heaps", "number"] ["many", "total"] (defScope s_hardest) := ⟨rfl, rfl, rfl, by decide +kernel, rfl, by decide +kernel, by decide +kernel⟩
theorem ok_hardest {f M TT : Addr} {fd : FuncData} (F : Fun K "hardest" "hardest" s_hardest f fd) (T : Tz mg) (C_check_many_and_total : Cal P w K mg base (L2.CX P w) 3 "check_many_and_total" ["many", "total"] (spChkMT K M TT)) (C_ascending_heaps : Cal P w K mg base CX0 5 "ascending_heaps" ["many", "total", "least"] (spAsc K 4)) (C_fewest : Cal P w K mg base CX0 7 "fewest" ["heaps"] (spFewestC K)) : FnOk P w K mg base (L2.CX P w) 8 f fd ["many", "total"] (spHardest K M TT) := by
  refine F.okX sc_hardest (fun vs H Q E h => ?_) (fun cdv A outer s H vs Q E hr h => ?_)
  · obtain ⟨v1, v2, d1, d2, rfl, _⟩ := h
    rfl
  · obtain ⟨v1, v2, d1, d2, rfl, h1, h2, k1, k2, k3⟩ := h
    have hu := hu_of hr
    refine ⟨_, (pss_cons (ps_expr (pe_cal C_check_many_and_total hr rfl (passes_call (takes_of rfl rfl rfl rfl) (fun _ _ _ _ h => h)) (pa_cons (pv 0) (pa_cons (pv 1) pa_nil))))
      (pss_cons (ps_frz (ps_setDcT (i := 2) (own := [("heaps", 4)]) (g := gName 4) hu (by rfl) sc_hardest.nd rfl rfl (sw_trueD rfl rfl rfl (by decide +kernel)) (pi_list (pe_cal C_ascending_heaps hr rfl pass0 (pa_cons (pv 0) (pa_cons (pv 1) (pa_cons pe_int pa_nil))))) (blkOk_by (own := [("heaps", 4)]) (N := ["many", "total", "numbers", "greatest", "heaps", "number"]) (sc := defScope s_hardest) (by decide +kernel)) (fun _ _ _ _ _ => ⟨pg_name (i := 4) sc_hardest.nd rfl (Or.inl rfl), pts_nil, (pv 4), (pe_cal C_fewest hr rfl pass0 (pa_cons (pv 4) pa_nil))⟩)))
      (pss_cons (ps_set (i := 3) sc_hardest.nd rfl (Or.inr rfl) (pe_maxVals rfl (by rfl) T.max (pv 2)))
      (pss_one (ps_ret (pe_tup (pa_cons (pv 3) (pa_cons (pe_lc (own := [("heaps", 4), ("number", 5)]) (g := gTup K 2 (gCons (gName 4) (gCons (gName 5) (gNil)))) (by rfl) sc_hardest.nd (pi_itemsT (pv 2)) (blkOk_by (own := [("heaps", 4), ("number", 5)]) (N := ["many", "total", "numbers", "greatest", "heaps", "number"]) (sc := defScope s_hardest) (by decide +kernel)) (fun _ _ _ _ _ => pg_tup (n := 2) rfl (pgs_cons (pg_name (i := 4) sc_hardest.nd rfl (Or.inl rfl)) (pgs_cons (pg_name (i := 5) sc_hardest.nd rfl (Or.inl rfl)) pgs_nil))) (fun _ _ _ _ _ => pts_one (pt_cmpR op_eq (pv 5) (pv 3) (nomark _))) (fun _ _ _ _ _ => (pv 4))) pa_nil)))))))), ?_⟩
    refine ⟨_, rfl, _, rfl, v1, v2, d1, d2, rfl, h1, h2, k1, k2, fun g1 g2 => ?_⟩
    obtain ⟨m0, rfl, hm3, hm4⟩ := isInt_eq g1
    obtain ⟨t, rfl, ht1, ht2⟩ := isInt_eq g2
    have ht1 : m0 ≤ t := ht1
    obtain ⟨m, rfl⟩ := Int.eq_ofNat_of_zero_le (show 0 ≤ m0 by omega)
    cases h1
    cases h2
    have k4 := k3 m t rfl rfl (by omega) (by omega) ht1 ht2
    obtain ⟨R, hR⟩ : ∃ R, R = ascF m t 1 := ⟨_, rfl⟩
    rw [← hR] at k4
    have bxR : ∀ x ∈ R, Bx m t x ∧ (0 : Int) ∉ x := fun x hx => ascF_bx (by omega) ht1 x (hR ▸ hx)
    have hz : ∀ x ∈ R, ∃ n k, Frs x n ∧ few0 x n = some k := fun x hx => by
      have hb := (bxR x hx).1
      obtain ⟨T, hT⟩ := Int.eq_ofNat_of_zero_le (show 0 ≤ t by omega)
      rw [hT] at hb
      obtain ⟨n, _, hF⟩ := frs_is hb
      obtain ⟨k, hk⟩ := few0_is hb (by omega) hF
      exact ⟨n, k, hF, hk⟩
    have ndR : R.Nodup := hR ▸ ascF_nd m t 1
    have neR : R ≠ [] := hR ▸ ascF_ne m t 1 (by omega) (by decide) (by omega)
    have lnR : R.length + 1 < sizeLine := by
      have h1 := ascF_len m t 1 ht2 (by decide)
      have h2 : 41 ^ m ≤ 41 ^ 4 := Nat.pow_le_pow_right (by decide) (by omega)
      rw [← hR] at h1
      rw [sizeLine_eq]
      have h3 : 41 ^ 4 = 2825761 := by decide
      omega
    refine ⟨_, rfl, _, rfl, m, t, 1, rfl, by omega, by omega, by omega, ht2, by omega, by decide, by decide, fun lp hs H1 s1 hlp hl1 ht1' he => ⟨lp, rfl, ⟨_, SqL.of hl1⟩, fun D hD => ?_⟩⟩
    rw [← hR] at he
    have hlD : lp ≠ D := ne_of_none hl1 hD
    have hrl : (hs.map fun q => V.ref q.1).length = R.length := by rw [← he, List.length_map, List.length_map]
    refine dcT_it (walk_list (K := K) (a := lp) (xs := hs.map fun q => V.ref q.1)) (fun j H2 => ∃ (kvs : List (List L2.Key × V)) (tl : List (Stn × Nat)), H2 D = some (.dT kvs) ∧ Dm IntIs kvs tl ∧ tl.map (·.1) = R.take j ∧ (∀ q ∈ tl, ∃ n, Frs q.1 n ∧ few0 q.1 n = some q.2) ∧ ∀ b u, b ≠ D → (∀ φ, u ≠ .ext φ) → H1 b = some u → H2 b = some u) ⟨[], [], upd_same, Dm.mt, rfl, (fun q hq => nomatch hq), fun b u nb _ e => by rw [upd_ne nb]; exact e⟩ ?_ ?_ ?_
    · rintro j H2 _ ⟨kvs, tl, _, _, _, _, k2⟩
      exact SqL.of (k2 _ _ hlD (by intro φ z; cases z) hl1)
    · rintro j x H2 H2' hj ⟨kvs, tl, hD2, hm2, hk2, ha2, k2⟩ ⟨e2, hx⟩
      subst e2
      rw [List.getElem?_map] at hx
      obtain ⟨q, hq, rfl⟩ := Option.map_eq_some_iff.mp hx
      have hqm := List.mem_of_getElem? hq
      have hRj : R[j]? = some q.2 := by rw [← he, List.getElem?_map, hq]; rfl
      have hqR := List.mem_of_getElem? hRj
      have hq1 := ht1' q hqm
      have hq2 := k2 _ _ (ne_of_none hq1 hD) (by intro φ z; cases z) hq1
      obtain ⟨hg1, hg2⟩ := asc_good (by omega) (by omega) ht2 (bxR _ hqR)
      refine ⟨rfl, ?_⟩
      refine tyes ?_
      refine iteT ?_
      refine ⟨_, rfl, _, rfl, q.1, q.2, rfl, hq2, hg1, hg2, fun n hF H4 n4 => ?_⟩
      obtain ⟨n', k, hF', hk⟩ := hz q.2 hqR
      have en := frs_one hF hF'
      subst en
      rw [hk]
      have hD4 := n4 _ _ (by intro φ z; cases z) hD2
      have hnk : q.2 ∉ tl.map (·.1) := fun z => by
        rw [hk2] at z
        obtain ⟨j2, hj2, e3⟩ := List.mem_iff_getElem.mp z
        rw [List.length_take] at hj2
        rw [List.getElem_take] at e3
        have := nodup_at ndR (i := j2) (j := j) (by rw [List.getElem?_eq_getElem (by omega), e3]) hRj
        omega
      refine ⟨kvs, kI q.2, q.1, rfl, by rw [kI_kV]; exact n4 _ _ (by intro φ z; cases z) hq2, hD4, ?_, putK kvs (kI q.2) (oNat (some k)), tl ++ [(q.2, k)], upd_same, ?_, ?_, fun z hz2 => ?_, fun b u nb nu e => by rw [upd_ne nb]; exact n4 _ _ nu (k2 b u nb nu e)⟩
      · have e := hm2.len
        have e2 := congrArg List.length hk2
        rw [List.length_map, List.length_take] at e2
        omega
      · have hp := hm2.put q.2 (v := oNat (some k)) (b := k) rfl
        rw [put_new hnk] at hp
        exact hp
      · rw [List.map_append, hk2, List.take_add_one, hRj]
        rfl
      · rcases List.mem_append.mp hz2 with hz2 | hz2
        · exact ha2 z hz2
        · rw [List.mem_singleton.mp hz2]
          exact ⟨n, hF, hk⟩
    · rintro H2 ⟨kvs, tl, hD2, hm2, hk2, ha2, k2⟩
      rw [hrl, List.take_length] at hk2
      have ndt : (tl.map (·.1)).Nodup := by rw [hk2]; exact ndR
      obtain ⟨g, hg⟩ : ∃ g : Stn → Nat, g = fun x => (lookA tl x).getD 0 := ⟨_, rfl⟩
      have htl : tl = R.map fun x => (x, g x) := by
        have e := told_nat ndt
        rw [hk2] at e
        rw [hg]
        exact e
      have hgA : ∀ x ∈ R, ∃ n, Frs x n ∧ few0 x n = some (g x) := fun x hx => ha2 (x, g x) (by rw [htl]; exact List.mem_map.mpr ⟨x, hx, rfl⟩)
      rw [htl] at hm2
      refine ⟨D, _, hD2, True.intro, fun od => ?_⟩
      have hD3 : (upd H2 D (.frz od (.dT kvs))) D = some (.frz od (.dT kvs)) := upd_same
      have n3 : NX H (upd H2 D (.frz od (.dT kvs))) := fun b u nu e => by
        have nb := ne_of_none (s1 _ _ e) hD
        rw [upd_ne nb]
        exact k2 b u nb nu (s1 _ _ e)
      generalize upd H2 D (.frz od (.dT kvs)) = H3 at hD3 n3 ⊢
      have hkl : kvs.length = R.length := by have e := hm2.len; rw [List.length_map] at e; exact e
      have hvals : kvs.map (·.2) = ((R.map g).map fun k : Nat => (k : Int)).map V.int := by
        have e := hm2.ints
        rw [show (R.map fun x => (x, g x)).map (·.2) = R.map g by rw [List.map_map]; rfl] at e
        exact e
      refine ⟨_, rfl, D, od, kvs, _, rfl, hD3, hvals, by simpa using neR, fun mm hmem hmax => ?_⟩
      obtain ⟨b, hb, rfl⟩ := List.mem_map.mp hmem
      have hbm : ∀ x ∈ R, g x ≤ b := fun x hx => by
        have := hmax (g x : Int) (List.mem_map.mpr ⟨g x, List.mem_map.mpr ⟨x, hx, rfl⟩, rfl⟩)
        omega
      refine ⟨_, rfl, _, rfl, D, od, kvs, rfl, hD3, fun a ha => ?_⟩
      refine lc_it (walk_itemsT (d := D) (o := od) (kvs := kvs)) (fun j H4 => ∃ hs : List Hrow, TL H3 H4 a hs ∧ hs.map (·.2) = (R.take j).filter fun x => decide (g x = b)) ⟨[], TL.new ha, rfl⟩ ?_ ?_ ?_
      · rintro j H4 _ ⟨gs, tg, _⟩
        exact tg.sm _ _ hD3
      · rintro j x H4 H4' hj ⟨gs, tg, hgs⟩ ⟨TP, kk, vv, q, hkv, rfl, hTP, hq, rfl⟩
        obtain ⟨y, c, hy, rfl, hr5⟩ := hm2.get hkv
        rw [kI_kV] at hq
        have hy2 : R[j]? = some y ∧ c = g y := by
          rw [List.getElem?_map] at hy
          obtain ⟨x, hx, e⟩ := Option.map_eq_some_iff.mp hy
          obtain ⟨e1, e2⟩ := Prod.mk.inj e
          exact ⟨by rw [hx, e1], by rw [← e2, e1]⟩
        obtain ⟨hyR, rfl⟩ := hy2
        have hr5 : vv = .int (g y : Int) := hr5
        subst hr5
        have hlen : gs.length < sizeLine := by
          have e1 := congrArg List.length hgs
          have e2 := List.length_filter_le (fun x => decide (g x = b)) (R.take j)
          rw [List.length_take] at e2
          rw [List.length_map] at e1
          omega
        rw [filter_take hyR]
        have tg5 := tg.mono (Same.new (o := .tup [.ref q, .int (g y : Int)]) hTP)
        have hq5 := Same.new (o := .tup [.ref q, .int (g y : Int)]) hTP _ _ hq
        have hTP5 : (upd H4 TP (.tup [.ref q, .int (g y : Int)])) TP = some (.tup [.ref q, .int (g y : Int)]) := upd_same
        generalize upd H4 TP (.tup [.ref q, .int (g y : Int)]) = H5 at tg5 hq5 hTP5 ⊢
        refine ⟨TP, _, rfl, SqT.of hTP5, rfl, _, _, rfl, _, _, rfl, rfl, rfl, _, rfl, _, rfl, rfl, _, rfl, ?_⟩
        rw [dec_int]
        by_cases e : g y = b
        · rw [decide_eq_true (show (g y : Int) = (b : Int) by omega)]
          refine iteT ⟨_, rfl, _, tg5.ls, by rw [List.length_map]; exact hlen, gs ++ [(q, y)], tg5.push hq5, ?_⟩
          rw [if_pos (decide_eq_true e), List.map_append, hgs]
          rfl
        · rw [decide_eq_false (show ¬ (g y : Int) = (b : Int) by omega)]
          refine iteF ⟨gs, tg5, ?_⟩
          rw [if_neg (by rw [decide_eq_false e]; decide), List.append_nil]
          exact hgs
      · rintro H4 ⟨gs, tg, hgs⟩
        rw [hkl, List.take_length] at hgs
        refine ⟨(by show 2 ≤ sizeLine; decide), fun p hp => ?_⟩
        have s5 : Same H4 (upd H4 p (.tup [.int (b : Int), .ref a])) := Same.new hp
        have n4 := n3.then (NX.of tg.sm)
        exact k4 p a gs g b _ (n4.then (NX.of s5)) (nu_of n4 hp) (nu_of n3 ha) hgA hb hbm upd_same (s5 _ _ tg.ls) (fun q hq => s5 _ _ (tg.st q hq)) hgs
end
end Hd
set_option maxHeartbeats 8000000
/-! The hardest heaps and those that come back, as functions of what is asked. -/
namespace Hd
open PySem PySem.Spec PyProof.Rows L2 StX
theorem nat_of {n n' : Nat} (e : PyData.int (n : Int) = .int (n' : Int)) : n = n' := Int.ofNat.inj (PyData.int.inj e)
/-! ### the hardest heaps -/
open Classical in
noncomputable def fwU (x : Stn) : Nat := if h : ∃ k n, Frs x n ∧ few0 x n = some k then Classical.choose h else 0
theorem fwU_is {x : Stn} {n k : Nat} (hF : Frs x n) (h : few0 x n = some k) : k = fwU x := by
  have hh : ∃ k n, Frs x n ∧ few0 x n = some k := ⟨k, n, hF, h⟩
  unfold fwU
  rw [dif_pos hh]
  obtain ⟨n', a, b⟩ := Classical.choose_spec hh
  obtain rfl := hF.one a
  exact Option.some.inj (h.symm.trans b)
noncomputable def hdB (m : Nat) (t : Int) : Nat := ((ascF m t 1).map fwU).foldl max 0
theorem max_is {l : List Nat} {b : Nat} (hb : b ∈ l) (hm : ∀ x ∈ l, x ≤ b) : l.foldl max 0 = b := by
  obtain ⟨h1, _, h3⟩ := Gm.fold_max_in l 0
  have := h3 b hb
  rcases h1 with e | e
  · omega
  · have := hm _ e
    omega
def spHardU : Sp := fun vs H Q _ => ∃ (m : Nat) (t : Int), vs = [.int (m : Int), .int t] ∧ 3 ≤ m ∧ m ≤ 4 ∧ (m : Int) ≤ t ∧ t ≤ 40 ∧ ∀ (a l : Addr) (hs : List Hrow) (H' : Hp), NX H H' → Nu H a → Nu H l → H' a = some (.tup [.int (hdB m t : Int), .ref l]) →
  H' l = some (.lst (hs.map fun q => V.ref q.1)) → (∀ q ∈ hs, H' q.1 = some (.tup (q.2.map V.int))) → hs.map (·.2) = (ascF m t 1).filter (fun x => decide (fwU x = hdB m t)) → Q (.ref a) H'
theorem no_many {m : Nat} (h3 : 3 ≤ m) (h4 : m ≤ 4) : isIntD 3 4 (.int (m : Int)) = false → False := fun z => by
  unfold isIntD inR at z
  simp only [Bool.and_eq_false_iff, decide_eq_false_iff_not] at z
  omega
theorem no_sum {m : Nat} {t : Int} (h1 : (m : Int) ≤ t) (h2 : t ≤ 40) : isIntD (intD (.int (m : Int))) 40 (.int t) = false → False := fun z => by
  unfold isIntD inR intD at z
  simp only [Bool.and_eq_false_iff, decide_eq_false_iff_not] at z
  omega
theorem hardest_u {K : PySem.W.Frag} {M TT : Addr} {vs : List V} {H : Hp} {Q : VK} {E : XK} (h : spHardU vs H Q E) : spHardest K M TT vs H Q E0 := by
  obtain ⟨m, t, rfl, h3, h4, h5, h6, k⟩ := h
  refine ⟨_, _, _, _, rfl, .int _, .int _, fun z => (no_many h3 h4 z).elim, fun _ z => (no_sum h5 h6 z).elim, fun m' t' e1 e2 _ _ _ _ a l hs g b H' nx na nl hg hb hm ha hl hst hf => ?_⟩
  obtain rfl := nat_of e1
  obtain rfl := PyData.int.inj e2
  have eg : ∀ x ∈ ascF m t 1, g x = fwU x := fun x hx => by
    obtain ⟨n, hF, h0⟩ := hg x hx
    exact fwU_is hF h0
  have em : (ascF m t 1).map g = (ascF m t 1).map fwU := List.map_congr_left eg
  have eb : hdB m t = b := by
    unfold hdB
    rw [← em]
    refine max_is hb fun y hy => ?_
    obtain ⟨x, hx, rfl⟩ := List.mem_map.mp hy
    exact hm x hx
  rw [← eb] at ha hf
  refine k a l hs H' nx na nl ha hl hst (hf.trans (List.filter_congr fun x hx => ?_))
  rw [eg x hx]
/-! ### those that come back -/
abbrev nxI (x : Stn) : List Stn := (nxS x).map srtI
theorem lead_congr {f g : Stn → List Stn} {R : List Stn} (h : ∀ x ∈ R, ∀ y, y ∈ f x ↔ y ∈ g x) {a : Stn} (ha : a ∈ R) {x : Stn} (p : Lead f R a x) : Lead g R a x := by
  induction p with
  | one hx r => exact .one ((h _ ha _).mp hx) r
  | more p hx r ih => exact .more ih ((h _ p.mem _).mp hx) r
open Classical in
noncomputable def retU (m : Nat) (t : Int) : List Stn := (ascF m t 1).filter fun x => decide (Lead nxI (ascF m t 1) x x)
def spRetU : Sp := fun vs H Q _ => ∃ (m : Nat) (t : Int), vs = [.int (m : Int), .int t] ∧ 3 ≤ m ∧ m ≤ 4 ∧ (m : Int) ≤ t ∧ t ≤ 40 ∧ ∀ (l : Addr) (hs : List Hrow) (H' : Hp), NX H H' → Nu H l →
  H' l = some (.lst (hs.map fun q => V.ref q.1)) → (∀ q ∈ hs, H' q.1 = some (.tup (q.2.map V.int))) → hs.map (·.2) = retU m t → Q (.ref l) H'
theorem returning_u {K : PySem.W.Frag} {M TT : Addr} {vs : List V} {H : Hp} {Q : VK} {E : XK} (h : spRetU vs H Q E) : spReturning K M TT vs H Q E0 := by
  obtain ⟨m, t, rfl, h3, h4, h5, h6, k⟩ := h
  refine ⟨_, _, _, _, rfl, .int _, .int _, fun z => (no_many h3 h4 z).elim, fun _ z => (no_sum h5 h6 z).elim, fun m' t' e1 e2 _ _ _ _ l hs p f H' nx nl hl hst hf hp he => ?_⟩
  obtain rfl := nat_of e1
  obtain rfl := PyData.int.inj e2
  refine k l hs H' nx nl hl hst (he.trans ?_)
  unfold retU
  refine List.filter_congr fun x hx => ?_
  rw [Bool.eq_iff_iff, hp x hx]
  have e := @decide_eq_true_iff (Lead nxI (ascF m t 1) x x) (Classical.propDecidable _)
  have hm : ∀ x ∈ ascF m t 1, ∀ y, y ∈ f x ↔ y ∈ nxI x := fun x hx y => by
    rw [(hf x hx).me y, List.mem_map]
    exact ⟨fun ⟨z, hz, e⟩ => ⟨z, hz, e.symm⟩, fun ⟨z, hz, e⟩ => ⟨z, hz, e.symm⟩⟩
  exact ⟨fun z => e.mpr (lead_congr hm hx z), fun z => lead_congr (fun x hx y => (hm x hx y).symm) hx (e.mp z)⟩
end Hd
set_option maxHeartbeats 4000000
/-! A walk by layers over standings in order: what it finds. Mathematics. -/
namespace Hd
open PySem PySem.Spec PyProof.Rows L2 StX
/-! ### all ascending heaps -/
def everF : Nat → Int → Int → List Stn
  | 0, _, _ => []
  | 1, t, l => if l ≤ t then [[t]] else []
  | m + 2, t, l => (List.range (t + 1 - l).toNat).flatMap fun i : Nat => (everF (m + 1) (t - (l + i)) (l + i)).map fun r => (l + i) :: r
theorem everF_none : ∀ (m : Nat) (t l : Int), 1 ≤ m → 0 ≤ l → t < (m : Int) * l → everF m t l = []
  | 0, _, _, h, _, _ => absurd h (by decide)
  | 1, t, l, _, _, h => by
    unfold everF
    rw [if_neg (by omega)]
  | m + 2, t, l, _, h0, h => by
    unfold everF
    rw [List.flatMap_eq_nil_iff]
    intro i hi
    rw [everF_none (m + 1) (t - (l + i)) (l + i) (by omega) (by omega) ?_]
    · rfl
    · have e : ((m + 2 : Nat) : Int) * l = ((m + 1 : Nat) : Int) * l + l := by
        rw [show ((m + 2 : Nat) : Int) = ((m + 1 : Nat) : Int) + 1 by omega, Int.add_mul, Int.one_mul]
      have e2 : ((m + 1 : Nat) : Int) * (l + i) = ((m + 1 : Nat) : Int) * l + ((m + 1 : Nat) : Int) * i := Int.mul_add ..
      have e3 : 0 ≤ ((m + 1 : Nat) : Int) * (i : Int) := Int.mul_nonneg (by omega) (by omega)
      omega
theorem flatMap_more {α : Type} (g : Nat → List α) {n m : Nat} (h : n ≤ m) (hz : ∀ i, n ≤ i → i < m → g i = []) : (List.range m).flatMap g = (List.range n).flatMap g := by
  obtain ⟨d, rfl⟩ := Nat.exists_eq_add_of_le h
  induction d with
  | zero => rfl
  | succ d ih =>
    rw [← Nat.add_assoc, List.range_succ, List.flatMap_append, ih (by omega) fun i h1 h2 => hz i h1 (by omega)]
    simp [hz (n + d) (by omega) (by omega)]
theorem flatMap_eq {α : Type} {f g : Nat → List α} {n : Nat} (h : ∀ i, i < n → f i = g i) : (List.range n).flatMap f = (List.range n).flatMap g := by
  induction n with
  | zero => rfl
  | succ n ih =>
    rw [List.range_succ, List.flatMap_append, List.flatMap_append, ih fun i hi => h i (by omega)]
    simp [h n (by omega)]
theorem everF_is : ∀ (m : Nat) (t l : Int), 1 ≤ m → 0 ≤ l → (m : Int) * l ≤ t → everF m t l = ascF m t l
  | 0, _, _, h, _, _ => absurd h (by decide)
  | 1, t, l, _, _, h => by
    unfold everF ascF
    rw [if_pos (by omega)]
  | m + 2, t, l, _, h0, h => by
    unfold everF ascF
    have e0 : ∀ a : Int, ((m + 2 : Nat) : Int) * a = ((m + 1 : Nat) : Int) * a + a := fun a => by
      rw [show ((m + 2 : Nat) : Int) = ((m + 1 : Nat) : Int) + 1 by omega, Int.add_mul, Int.one_mul]
    have ht : 0 ≤ t := Int.le_trans (Int.mul_nonneg (by omega) h0) h
    have hd1 : t / ((m + 2 : Nat) : Int) ≤ t := Int.ediv_le_self _ ht
    rw [flatMap_more (n := (t / ((m + 2 : Nat) : Int) + 1 - l).toNat) (m := (t + 1 - l).toNat) _ (by omega) fun i h1 h2 => ?_]
    · refine flatMap_eq fun i hi => ?_
      have h1 : l + (i : Int) ≤ t / ((m + 2 : Nat) : Int) := by omega
      have h2 : ((m + 2 : Nat) : Int) * (l + i) ≤ t := by
        have := Int.mul_le_of_le_ediv (c := ((m + 2 : Nat) : Int)) (by omega) h1
        rw [Int.mul_comm]
        exact this
      have h3 := e0 (l + i)
      show ((everF (m + 1) (t - (l + i)) (l + i)).map fun r => (l + (i : Int)) :: r) = (ascF (m + 1) (t - (l + i)) (l + i)).map fun r => (l + (i : Int)) :: r
      rw [everF_is (m + 1) (t - (l + i)) (l + i) (by omega) (by omega) (by omega)]
    · have h3 : t / ((m + 2 : Nat) : Int) < l + (i : Int) := by omega
      have h4 : t < (l + (i : Int)) * ((m + 2 : Nat) : Int) := (Int.ediv_lt_iff_lt_mul (by omega)).mp h3
      have h5 := e0 (l + i)
      rw [Int.mul_comm] at h4
      rw [everF_none (m + 1) (t - (l + i)) (l + i) (by omega) (by omega) (by omega)]
      rfl
theorem sum_low : ∀ (xs : List Int) (a : Int), (∀ x ∈ xs, a ≤ x) → (xs.length : Int) * a ≤ xs.sum
  | [], _, _ => by simp
  | x :: xs, a, h => by
    have h1 := sum_low xs a fun y hy => h y (List.mem_cons_of_mem _ hy)
    have h2 := h x List.mem_cons_self
    rw [List.sum_cons, List.length_cons, show ((xs.length + 1 : Nat) : Int) = (xs.length : Int) + 1 by omega, Int.add_mul, Int.one_mul]
    omega
/-- whatever stands in order stands there -/
theorem ascF_all : ∀ (m : Nat) (t l : Int) (x : Stn), 1 ≤ m → x.length = m → x.sum = t → x.Pairwise (· ≤ ·) → (∀ a ∈ x, l ≤ a) → x ∈ ascF m t l
  | 0, _, _, _, h, _, _, _, _ => absurd h (by decide)
  | 1, t, l, x, _, hl, hs, _, _ => by
    match x, hl with
    | [a], _ =>
      unfold ascF
      have : a = t := by simpa using hs
      rw [this]
      exact List.mem_singleton.mpr rfl
  | m + 2, t, l, x, _, hl, hs, hp, hb => by
    match x, hl with
    | a :: r, hl =>
      obtain ⟨p1, p2⟩ := List.pairwise_cons.mp hp
      have ha := hb a List.mem_cons_self
      have hrl : r.length = m + 1 := by simpa using hl
      rw [List.sum_cons] at hs
      have hge := sum_low r a p1
      rw [hrl] at hge
      have h1 : a * ((m + 2 : Nat) : Int) ≤ t := by
        rw [Int.mul_comm, show ((m + 2 : Nat) : Int) = ((m + 1 : Nat) : Int) + 1 by omega, Int.add_mul, Int.one_mul]
        omega
      have h2 : a ≤ t / ((m + 2 : Nat) : Int) := Int.le_ediv_of_mul_le (by omega) h1
      unfold ascF
      refine List.mem_flatMap.mpr ⟨(a - l).toNat, List.mem_range.mpr (by omega), List.mem_map.mpr ⟨r, ?_, ?_⟩⟩
      · have e : l + ((a - l).toNat : Int) = a := by omega
        rw [e]
        exact ascF_all (m + 1) (t - a) a r (by omega) hrl (by omega) p2 p1
      · have e : l + ((a - l).toNat : Int) = a := by omega
        rw [e]
theorem ascF_up : ∀ (m : Nat) (t l : Int), 1 ≤ m → 0 ≤ l → (m : Int) * l ≤ t → ∀ x ∈ ascF m t l, x.Pairwise (· ≤ ·)
  | 0, _, _, h, _, _, _, _ => absurd h (by decide)
  | 1, t, l, _, _, _, x, hx => by
    simp only [ascF, List.mem_singleton] at hx
    subst hx
    exact List.pairwise_singleton _ _
  | m + 2, t, l, _, h0, hl, x, hx => by
    unfold ascF at hx
    obtain ⟨i, hi, hx⟩ := List.mem_flatMap.mp hx
    obtain ⟨r, hr, rfl⟩ := List.mem_map.mp hx
    have hi := List.mem_range.mp hi
    have h1 : l + (i : Int) ≤ t / ((m + 2 : Nat) : Int) := by omega
    have h2 : ((m + 2 : Nat) : Int) * (l + i) ≤ t := by
      have := Int.mul_le_of_le_ediv (c := ((m + 2 : Nat) : Int)) (by omega) h1
      rw [Int.mul_comm]
      exact this
    have h3 : ((m + 1 : Nat) : Int) * (l + i) ≤ t - (l + i) := by
      have e : ((m + 2 : Nat) : Int) * (l + i) = ((m + 1 : Nat) : Int) * (l + i) + (l + i) := by
        rw [show ((m + 2 : Nat) : Int) = ((m + 1 : Nat) : Int) + 1 by omega, Int.add_mul, Int.one_mul]
      omega
    exact List.pairwise_cons.mpr ⟨(ascF_in (m + 1) (t - (l + i)) (l + i) (by omega) (by omega) h3 r hr).2, ascF_up (m + 1) _ _ (by omega) (by omega) h3 r hr⟩
/-! ### the order of heaps does not matter -/
structure Ren (n : Nat) (π ρ : Nat → Nat) : Prop where
  a : ∀ i, i < n → π i < n
  b : ∀ i, i < n → ρ i < n
  ab : ∀ i, i < n → π (ρ i) = i
  ba : ∀ i, i < n → ρ (π i) = i
theorem perm_ren {x y : Stn} (p : x.Perm y) : ∃ π ρ, Ren x.length π ρ ∧ ∀ i, i < x.length → y.getD i 0 = x.getD (π i) 0 := by
  induction p with
  | nil => exact ⟨id, id, ⟨fun i h => h, fun i h => h, fun _ _ => rfl, fun _ _ => rfl⟩, fun i h => absurd h (Nat.not_lt_zero _)⟩
  | @cons a l m p ih =>
    obtain ⟨π, ρ, R, h⟩ := ih
    refine ⟨fun i => if i = 0 then 0 else π (i - 1) + 1, fun i => if i = 0 then 0 else ρ (i - 1) + 1, ⟨fun i hi => ?_, fun i hi => ?_, fun i hi => ?_, fun i hi => ?_⟩, fun i hi => ?_⟩
    all_goals rw [List.length_cons] at hi
    · cases i with
      | zero => simp
      | succ i => have := R.a i (by omega); simp; omega
    · cases i with
      | zero => simp
      | succ i => have := R.b i (by omega); simp; omega
    · cases i with
      | zero => simp
      | succ i => have := R.ab i (by omega); simp; omega
    · cases i with
      | zero => simp
      | succ i => have := R.ba i (by omega); simp; omega
    · cases i with
      | zero => simp
      | succ i =>
        have := h i (by omega)
        simpa using this
  | swap a b l =>
    refine ⟨fun i => if i = 0 then 1 else if i = 1 then 0 else i, fun i => if i = 0 then 1 else if i = 1 then 0 else i, ⟨fun i hi => ?_, fun i hi => ?_, fun i hi => ?_, fun i hi => ?_⟩, fun i hi => ?_⟩
    all_goals simp only [List.length_cons] at hi ⊢
    · split
      · omega
      · split <;> omega
    · split
      · omega
      · split <;> omega
    · by_cases h0 : i = 0
      · subst h0; simp
      · by_cases h1 : i = 1
        · subst h1; simp
        · simp [h0, h1]
    · by_cases h0 : i = 0
      · subst h0; simp
      · by_cases h1 : i = 1
        · subst h1; simp
        · simp [h0, h1]
    · match i with
      | 0 => simp
      | 1 => simp
      | i + 2 => simp
  | @trans l m n p q ih1 ih2 =>
    obtain ⟨π, ρ, R, h⟩ := ih1
    obtain ⟨π', ρ', R', h'⟩ := ih2
    have e := p.length_eq
    rw [← e] at R' h'
    exact ⟨fun i => π (π' i), fun i => ρ' (ρ i), ⟨fun i hi => R.a _ (R'.a i hi), fun i hi => R'.b _ (R.b i hi), fun i hi => by show π (π' (ρ' (ρ i))) = i; rw [R'.ab _ (R.b i hi), R.ab i hi], fun i hi => by show ρ' (ρ (π (π' i))) = i; rw [R.ba _ (R'.a i hi), R'.ba i hi]⟩, fun i hi => by rw [h' i hi, h _ (R'.a i hi)]⟩
theorem list_range (x : Stn) : x = (List.range x.length).map fun i => x.getD i 0 := by
  refine List.ext_getElem (by simp) fun i h1 h2 => ?_
  rw [List.getElem_map, List.getElem_range, List.getD_eq_getElem?_getD, List.getElem?_eq_getElem h1]
  rfl
theorem ren_perm {x y : Stn} {π ρ : Nat → Nat} (R : Ren x.length π ρ) (hl : y.length = x.length) (h : ∀ i, i < x.length → y.getD i 0 = x.getD (π i) 0) : y.Perm x := by
  have e1 : y = ((List.range x.length).map π).map fun i => x.getD i 0 := by
    rw [List.map_map]
    refine (list_range y).trans ?_
    rw [hl]
    exact List.map_congr_left fun i hi => h i (List.mem_range.mp hi)
  have e2 : ((List.range x.length).map π).Perm (List.range x.length) := by
    refine (List.perm_ext_iff_of_nodup ?_ List.nodup_range).mpr fun i => ?_
    · rw [List.nodup_iff_pairwise_ne, List.pairwise_map]
      refine List.Pairwise.imp_of_mem (fun {a b} ha hb h e => h ?_) (List.nodup_iff_pairwise_ne.mp (List.nodup_range (n := x.length)))
      have := congrArg ρ e
      rw [R.ba a (List.mem_range.mp ha), R.ba b (List.mem_range.mp hb)] at this
      exact this
    · rw [List.mem_map, List.mem_range]
      constructor
      · rintro ⟨j, hj, rfl⟩
        exact R.a j (List.mem_range.mp hj)
      · intro hi
        exact ⟨ρ i, List.mem_range.mpr (R.b i hi), R.ab i hi⟩
  have e3 := e2.map fun i => x.getD i 0
  rw [← e1, ← list_range x] at e3
  exact e3
theorem nxS_perm {x x' y : Stn} (p : x.Perm x') (hy : y ∈ nxS x) : ∃ y' ∈ nxS x', y'.Perm y := by
  obtain ⟨π, ρ, R, h⟩ := perm_ren p
  have hl := p.length_eq
  obtain ⟨q, hq, rfl⟩ := List.mem_map.mp hy
  obtain ⟨q1, q2, q3, q4⟩ := mem_due.mp hq
  have c := can_iff.mp q4
  have r1 := R.b _ q1
  have r2 := R.b _ q2
  have g1 : x'.getD (ρ q.1) 0 = x.getD q.1 0 := by rw [h _ r1, R.ab _ q1]
  have g2 : x'.getD (ρ q.2) 0 = x.getD q.2 0 := by rw [h _ r2, R.ab _ q2]
  have ne : ρ q.1 ≠ ρ q.2 := fun e => q3 (by rw [← R.ab _ q1, ← R.ab _ q2, e])
  refine ⟨mv x' (ρ q.1) (ρ q.2), List.mem_map.mpr ⟨(ρ q.1, ρ q.2), mem_due.mpr ⟨by rw [← hl]; exact r1, by rw [← hl]; exact r2, ne, can_iff.mpr (by rw [g1, g2]; exact c)⟩, rfl⟩, ?_⟩
  refine ren_perm (π := π) (ρ := ρ) (by rw [len_mv]; exact R) (by rw [len_mv, len_mv, hl]) fun i hi => ?_
  rw [len_mv] at hi
  rw [getD_mv (by rw [← hl]; exact r1) (by rw [← hl]; exact r2) ne, getD_mv q1 q2 q3, g1, g2, h i hi]
  have i1 : i = ρ q.2 ↔ π i = q.2 := ⟨fun e => by rw [e, R.ab _ q2], fun e => by rw [← e, R.ba _ hi]⟩
  have i2 : i = ρ q.1 ↔ π i = q.1 := ⟨fun e => by rw [e, R.ab _ q1], fun e => by rw [← e, R.ba _ hi]⟩
  simp only [i1, i2]
theorem srtI_eq {y z : Stn} (p : y.Perm z) : srtI y = srtI z := srtI_one ((srtI_perm y).trans p) (srtI_sorted y)
theorem nxI_srt {x z : Stn} : z ∈ nxI x ↔ z ∈ nxI (srtI x) := by
  constructor
  · intro h
    obtain ⟨y, hy, rfl⟩ := List.mem_map.mp h
    obtain ⟨y', h1, h2⟩ := nxS_perm (srtI_perm x).symm hy
    exact List.mem_map.mpr ⟨y', h1, srtI_eq h2⟩
  · intro h
    obtain ⟨y, hy, rfl⟩ := List.mem_map.mp h
    obtain ⟨y', h1, h2⟩ := nxS_perm (srtI_perm x) hy
    exact List.mem_map.mpr ⟨y', h1, srtI_eq h2⟩
/-! ### how far -/
inductive Ps (a : Stn) : Nat → Stn → Prop
  | z : Ps a 0 a
  | s {k : Nat} {y x : Stn} : Ps a k y → x ∈ nxS y → Ps a (k + 1) x
theorem frn_ps {a : Stn} : ∀ {i : Nat} {x : Stn}, x ∈ (frn a i).map (·.1) → Ps a i x
  | 0, x, h => by
    have e : x = a := by simpa [frn, stA] using h
    rw [e]
    exact .z
  | i + 1, x, h => by
    obtain ⟨⟨e, he, hx⟩, _⟩ := mem_frn.mp h
    exact .s (frn_ps he) hx
theorem ps_fnd {a : Stn} {k : Nat} {x : Stn} (h : Ps a k x) : x ∈ fnd a k := by
  induction h with
  | z => simp [fnd, stA]
  | @s k y x p hx ih =>
    obtain ⟨j, hj, hq⟩ := fnd_front ih
    by_cases c : x ∈ fnd a j
    · exact fnd_mono (by omega) c
    · have h2 : x ∈ (frn a (j + 1)).map (·.1) := mem_frn.mpr ⟨⟨y, hq, hx⟩, c⟩
      have h3 : x ∈ fnd a (j + 1) := by rw [fnd_succ]; exact List.mem_append.mpr (.inr h2)
      exact fnd_mono (by omega) h3
def Zr (a : Stn) (k : Nat) : Prop := ∃ x, Ps a k x ∧ (0 : Int) ∈ x
theorem fwU_least {L S : Nat} {a : Stn} (hB : Bx L (S : Int) a) (hL : 3 ≤ L) : Zr a (fwU a) ∧ ∀ j, j < fwU a → ¬ Zr a j := by
  obtain ⟨n, _, hF⟩ := frs_is hB
  obtain ⟨k, hk⟩ := few0_is hB hL hF
  rw [← fwU_is hF hk]
  have h1 : zer a k = true := by
    have := List.find?_some (p := zer a) hk
    exact this
  have h2 : ∀ j, j < k → zer a j = false := fun j hj => by
    cases e : zer a j with
    | false => rfl
    | true =>
      have hkn : k < n := List.mem_range.mp (List.mem_of_find?_eq_some hk)
      have hb : ∃ i, i ≤ j ∧ zer a i = true ∧ ∀ m, m < i → ¬ zer a m = true := least j e
      obtain ⟨i, hi, hz, hm⟩ := hb
      have := few0_some (n := n) (by omega) hz fun m hm' => by simpa using hm m hm'
      rw [hk] at this
      have := Option.some.inj this
      omega
  constructor
  · obtain ⟨x, hx, h0⟩ := List.any_eq_true.mp h1
    exact ⟨x, frn_ps hx, of_decide_eq_true h0⟩
  · rintro j hj ⟨x, hp, h0⟩
    obtain ⟨i, hi, hq⟩ := fnd_front (ps_fnd hp)
    have := h2 i (by omega)
    have e : zer a i = true := List.any_eq_true.mpr ⟨x, hq, decide_eq_true h0⟩
    rw [this] at e
    cases e
/-- by standings in order, none of them with an empty heap -/
inductive Pn (a : Stn) : Nat → Stn → Prop
  | z : Pn a 0 a
  | s {k : Nat} {y x : Stn} : Pn a k y → x ∈ nxI y → (0 : Int) ∉ x → Pn a (k + 1) x
theorem pn_ps {a : Stn} (ha : srtI a = a) {k : Nat} {y : Stn} (h : Pn a k y) : ∃ x, Ps a k x ∧ y = srtI x := by
  induction h with
  | z => exact ⟨a, .z, ha.symm⟩
  | @s k y x p hx _ ih =>
    obtain ⟨u, hu, rfl⟩ := ih
    obtain ⟨v, hv, rfl⟩ := List.mem_map.mp (nxI_srt.mpr hx)
    exact ⟨v, .s hu hv, rfl⟩
theorem zr_of {a : Stn} (ha : srtI a = a) {k : Nat} {y z : Stn} (h : Pn a k y) (hz : z ∈ nxI y) (h0 : (0 : Int) ∈ z) : Zr a (k + 1) := by
  obtain ⟨x, hx, rfl⟩ := pn_ps ha h
  obtain ⟨v, hv, rfl⟩ := List.mem_map.mp (nxI_srt.mpr hz)
  exact ⟨v, .s hx hv, (srtI_perm v).mem_iff.mp h0⟩
theorem ps_pn {a : Stn} (ha : srtI a = a) : ∀ {k : Nat} {x : Stn}, Ps a k x → (∀ j, j ≤ k → ¬ Zr a j) → Pn a k (srtI x)
  | _, _, .z, _ => by rw [ha]; exact .z
  | _, _, .s (k := k) (y := y) (x := x) p hx, hn => .s (ps_pn ha p fun j hj => hn j (by omega)) (nxI_srt.mp (List.mem_map.mpr ⟨x, hx, rfl⟩)) fun z => hn (k + 1) (Nat.le_refl _) ⟨x, .s p hx, (srtI_perm x).mem_iff.mp z⟩
/-- the least such number, told by standings in order -/
theorem zr_pre {a : Stn} (ha : srtI a = a) (h0 : (0 : Int) ∉ a) {l : Nat} (hz : Zr a l) (hm : ∀ j, j < l → ¬ Zr a j) : ∃ k y z, l = k + 1 ∧ Pn a k y ∧ z ∈ nxI y ∧ (0 : Int) ∈ z := by
  obtain ⟨x, hp, hx⟩ := hz
  cases hp with
  | z => exact absurd hx h0
  | @s k y _ p hx' =>
    exact ⟨k, srtI y, srtI x, rfl, ps_pn ha p fun j hj => hm j (by omega), nxI_srt.mp (List.mem_map.mpr ⟨x, hx', rfl⟩), (srtI_perm x).mem_iff.mpr hx⟩
end Hd
set_option maxHeartbeats 4000000
/-! The walk by layers, as a machine, and what holds of it. Mathematics. -/
namespace Hd
open PySem PySem.Spec PyProof.Rows L2 StX
structure WS where
  sn : List Stn
  lr : List Stn
  lt : Option Nat
  bk : Bool
/-- a standing is seen -/
def one (h : Stn) (k : Nat) (s : WS) (x : Stn) : WS :=
  ⟨if 0 < x.getD 0 0 ∧ x ∉ s.sn then s.sn ++ [x] else s.sn, if 0 < x.getD 0 0 ∧ x ∉ s.sn then s.lr ++ [x] else s.lr, if x.getD 0 0 = 0 ∧ s.lt = none then some k else s.lt, s.bk || decide (x = h)⟩
def lay (h : Stn) (k : Nat) (s : WS) (L : List Stn) : WS := L.foldl (fun s x => (nxI x).foldl (one h k) s) s
theorem lay_flat {h : Stn} {k : Nat} : ∀ (L : List Stn) (s : WS), lay h k s L = (L.flatMap nxI).foldl (one h k) s
  | [], _ => rfl
  | x :: L, s => by
    rw [List.flatMap_cons, List.foldl_append]
    exact lay_flat L _
theorem snoc_ind {α : Type} {P : List α → Prop} (h0 : P []) (hs : ∀ l x, P l → P (l ++ [x])) (l : List α) : P l := by
  have key : ∀ r : List α, P r.reverse := fun r => by
    induction r with
    | nil => exact h0
    | cons x r ih => rw [List.reverse_cons]; exact hs _ x ih
  have := key l.reverse
  rwa [List.reverse_reverse] at this
theorem perm_sum {l m : List Int} (p : l.Perm m) : l.sum = m.sum := by
  induction p with
  | nil => rfl
  | cons a _ ih => rw [List.sum_cons, List.sum_cons, ih]
  | swap a b l => rw [List.sum_cons, List.sum_cons, List.sum_cons, List.sum_cons]; omega
  | trans _ _ a b => exact a.trans b
theorem one_fold {h : Stn} {k : Nat} {s0 : WS} (h0 : s0.lr = []) : ∀ (all : List Stn) , (all.foldl (one h k) s0).sn = s0.sn ++ (all.foldl (one h k) s0).lr ∧ (∀ x, x ∈ (all.foldl (one h k) s0).lr ↔ x ∈ all ∧ 0 < x.getD 0 0 ∧ x ∉ s0.sn) ∧
    (s0.sn.Nodup → (all.foldl (one h k) s0).sn.Nodup) ∧ ((all.foldl (one h k) s0).lt = none ↔ s0.lt = none ∧ ∀ x ∈ all, x.getD 0 0 ≠ 0) ∧ (∀ l, (all.foldl (one h k) s0).lt = some l → s0.lt = some l ∨ (s0.lt = none ∧ l = k ∧ ∃ x ∈ all, x.getD 0 0 = 0)) ∧ ((all.foldl (one h k) s0).bk = true ↔ s0.bk = true ∨ h ∈ all) := fun all => by
  refine snoc_ind (P := fun all => (all.foldl (one h k) s0).sn = s0.sn ++ (all.foldl (one h k) s0).lr ∧ (∀ x, x ∈ (all.foldl (one h k) s0).lr ↔ x ∈ all ∧ 0 < x.getD 0 0 ∧ x ∉ s0.sn) ∧
    (s0.sn.Nodup → (all.foldl (one h k) s0).sn.Nodup) ∧ ((all.foldl (one h k) s0).lt = none ↔ s0.lt = none ∧ ∀ x ∈ all, x.getD 0 0 ≠ 0) ∧ (∀ l, (all.foldl (one h k) s0).lt = some l → s0.lt = some l ∨ (s0.lt = none ∧ l = k ∧ ∃ x ∈ all, x.getD 0 0 = 0)) ∧ ((all.foldl (one h k) s0).bk = true ↔ s0.bk = true ∨ h ∈ all)) ?_ (fun all x ih => ?_) all
  · refine ⟨by simp [h0], fun x => by simp [h0], fun nd => nd, by simp, fun l e => .inl e, by simp⟩
  · obtain ⟨i1, i2, i3, i4, i5, i6⟩ := ih
    rw [List.foldl_append, List.foldl_cons, List.foldl_nil]
    generalize all.foldl (one h k) s0 = s at i1 i2 i3 i4 i5 i6 ⊢
    have i7 : (one h k s x).lt = if x.getD 0 0 = 0 ∧ s.lt = none then some k else s.lt := rfl
    refine ⟨?_, fun y => ?_, fun nd => ?_, ?_, fun l => ?_, ?_⟩
    · show (if 0 < x.getD 0 0 ∧ x ∉ s.sn then s.sn ++ [x] else s.sn) = s0.sn ++ (if 0 < x.getD 0 0 ∧ x ∉ s.sn then s.lr ++ [x] else s.lr)
      split
      · rw [i1, List.append_assoc]
      · exact i1
    · show y ∈ (if 0 < x.getD 0 0 ∧ x ∉ s.sn then s.lr ++ [x] else s.lr) ↔ _
      rw [List.mem_append, List.mem_singleton]
      by_cases c : 0 < x.getD 0 0 ∧ x ∉ s.sn
      · rw [if_pos c, List.mem_append, List.mem_singleton, i2]
        constructor
        · rintro (z | rfl)
          · exact ⟨.inl z.1, z.2⟩
          · refine ⟨.inr rfl, c.1, fun z => c.2 ?_⟩
            rw [i1]
            exact List.mem_append.mpr (.inl z)
        · rintro ⟨z | rfl, z2⟩
          · exact .inl ⟨z, z2⟩
          · exact .inr rfl
      · rw [if_neg c, i2]
        constructor
        · rintro ⟨a, b⟩
          exact ⟨.inl a, b⟩
        · rintro ⟨z | rfl, z2, z3⟩
          · exact ⟨z, z2, z3⟩
          · have hy : y ∈ s.sn := Decidable.byContradiction fun q => c ⟨z2, q⟩
            rw [i1] at hy
            exact (i2 y).mp ((List.mem_append.mp hy).resolve_left z3)
    · show (if 0 < x.getD 0 0 ∧ x ∉ s.sn then s.sn ++ [x] else s.sn).Nodup
      split
      · rename_i c
        rw [List.nodup_append]
        exact ⟨i3 nd, by simp, fun a ha b hb e => c.2 (by rw [List.mem_singleton.mp hb] at e; exact e ▸ ha)⟩
      · exact i3 nd
    · rw [i7]
      by_cases c : x.getD 0 0 = 0 ∧ s.lt = none
      · rw [if_pos c]
        constructor
        · intro z; cases z
        · rintro ⟨_, z⟩
          exact absurd c.1 (z x (by simp))
      · rw [if_neg c, i4]
        constructor
        · rintro ⟨a, b⟩
          refine ⟨a, fun y hy => ?_⟩
          rcases List.mem_append.mp hy with z | z
          · exact b y z
          · rw [List.mem_singleton.mp z]
            exact fun e => c ⟨e, i4.mpr ⟨a, b⟩⟩
        · rintro ⟨a, b⟩
          exact ⟨a, fun y hy => b y (by simp [hy])⟩
    · rw [i7]
      by_cases c : x.getD 0 0 = 0 ∧ s.lt = none
      · rw [if_pos c]
        intro e
        exact .inr ⟨(i4.mp c.2).1, (Option.some.inj e).symm, x, by simp, c.1⟩
      · rw [if_neg c]
        intro e
        rcases i5 l e with z | ⟨z1, z2, y, hy, z3⟩
        · exact .inl z
        · exact .inr ⟨z1, z2, y, by simp [hy], z3⟩
    · show (s.bk || decide (x = h)) = true ↔ _
      rw [Bool.or_eq_true, i6, decide_eq_true_eq, List.mem_append, List.mem_singleton]
      constructor
      · rintro ((z | z) | z)
        · exact .inl z
        · exact .inr (.inl z)
        · exact .inr (.inr z.symm)
      · rintro (z | z | z)
        · exact .inl (.inl z)
        · exact .inl (.inr z)
        · exact .inr z.symm
/-- standings in order, of no empty heap -/
structure Asc (R : List Stn) : Prop where
  pos : ∀ x ∈ R, (0 : Int) ∉ x
  cl : ∀ x ∈ R, ∀ y ∈ nxI x, (0 : Int) ∉ y → y ∈ R
  hd : ∀ x ∈ R, ∀ y ∈ nxI x, (y.getD 0 0 = 0 ↔ (0 : Int) ∈ y) ∧ (0 < y.getD 0 0 ↔ (0 : Int) ∉ y)
structure Wi (R : List Stn) (h : Stn) (k : Nat) (dn ly sn : List Stn) (lt : Option Nat) (bk : Bool) : Prop where
  clo : ∀ y ∈ dn, ∀ x ∈ nxI y, (0 : Int) ∉ x → x ∈ sn
  snd : ∀ x ∈ sn, x ∈ dn ∨ x ∈ ly
  hin : h ∈ dn ∨ h ∈ ly
  lyP : ∀ x ∈ ly, Pn h k x
  dnS : ∀ y ∈ dn, y = h ∨ y ∈ sn
  lyS : ∀ y ∈ ly, y = h ∨ y ∈ sn
  snL : ∀ x ∈ sn, Lead nxI R h x
  nd : sn.Nodup
  dis : ∀ j, j < k → ∀ y, Pn h j y → y ∈ dn
  bkI : bk = true ↔ ∃ y ∈ dn, h ∈ nxI y
  lt0 : lt = none → ∀ y ∈ dn, ∀ x ∈ nxI y, (0 : Int) ∉ x
  lt1 : ∀ l, lt = some l → ∃ j y x, l = j + 1 ∧ Pn h j y ∧ x ∈ nxI y ∧ (0 : Int) ∈ x ∧ ∀ i, i < j → ∀ y, Pn h i y → ∀ x ∈ nxI y, (0 : Int) ∉ x
theorem Wi.start {R : List Stn} {h : Stn} : Wi R h 0 [] [h] [] none false :=
  ⟨fun _ z => (nomatch z), fun _ z => (nomatch z), .inr (by simp), fun x hx => (by rw [List.mem_singleton.mp hx]; exact .z), fun _ z => (nomatch z), fun y hy => .inl (List.mem_singleton.mp hy), fun _ z => (nomatch z), List.nodup_nil,
    fun _ z => absurd z (Nat.not_lt_zero _), by simp, fun _ _ z => (nomatch z), fun _ z => (nomatch z)⟩
theorem Wi.inR {R : List Stn} {h : Stn} {k : Nat} {dn ly sn : List Stn} {lt : Option Nat} {bk : Bool} (W : Wi R h k dn ly sn lt bk) (hR : h ∈ R) : ∀ y ∈ ly, y ∈ R := fun y hy => by
  rcases W.lyS y hy with e | z
  · rw [e]; exact hR
  · exact (W.snL y z).mem
theorem Wi.next {R : List Stn} {h : Stn} {k : Nat} {dn ly sn : List Stn} {lt : Option Nat} {bk : Bool} (A : Asc R) (hR : h ∈ R) (W : Wi R h k dn ly sn lt bk) :
    Wi R h (k + 1) (dn ++ ly) (lay h (k + 1) ⟨sn, [], lt, bk⟩ ly).lr (lay h (k + 1) ⟨sn, [], lt, bk⟩ ly).sn (lay h (k + 1) ⟨sn, [], lt, bk⟩ ly).lt (lay h (k + 1) ⟨sn, [], lt, bk⟩ ly).bk ∧
    (lay h (k + 1) ⟨sn, [], lt, bk⟩ ly).sn = sn ++ (lay h (k + 1) ⟨sn, [], lt, bk⟩ ly).lr := by
  rw [lay_flat]
  obtain ⟨f1, f2, f3, f4, f5, f6⟩ := one_fold (h := h) (k := k + 1) (s0 := ⟨sn, [], lt, bk⟩) rfl (ly.flatMap nxI)
  have lyR := W.inR hR
  have mall : ∀ {x}, x ∈ ly.flatMap nxI ↔ ∃ y ∈ ly, x ∈ nxI y := fun {x} => List.mem_flatMap
  generalize (ly.flatMap nxI).foldl (one h (k + 1)) ⟨sn, [], lt, bk⟩ = s at f1 f2 f3 f4 f5 f6 ⊢
  have hz : ∀ {x}, x ∈ ly.flatMap nxI → (x.getD 0 0 = 0 ↔ (0 : Int) ∈ x) ∧ (0 < x.getD 0 0 ↔ (0 : Int) ∉ x) := fun {x} hx => by
    obtain ⟨y, hy, hx⟩ := mall.mp hx
    exact A.hd y (lyR y hy) x hx
  have kdn : ∀ y, Pn h k y → y ∈ dn ++ ly := fun y hp => by
    cases hp with
    | z => exact List.mem_append.mpr W.hin
    | @s j y0 _ p hx h0 => exact List.mem_append.mpr (W.snd y (W.clo y0 (W.dis j (by omega) y0 p) y hx h0))
  refine ⟨⟨fun y hy x hx h0 => ?_, fun x hx => ?_, .inl (List.mem_append.mpr W.hin), fun x hx => ?_, fun y hy => ?_, fun x hx => ?_, fun x hx => ?_, f3 W.nd, fun j hj y hp => ?_, ?_, fun e y hy x hx => ?_, fun l e => ?_⟩, f1⟩
  · rw [f1]
    rcases List.mem_append.mp hy with z | z
    · exact List.mem_append.mpr (.inl (W.clo y z x hx h0))
    · have ha := mall.mpr ⟨y, z, hx⟩
      by_cases c : x ∈ sn
      · exact List.mem_append.mpr (.inl c)
      · exact List.mem_append.mpr (.inr ((f2 x).mpr ⟨ha, (hz ha).2.mpr h0, c⟩))
  · rw [f1] at hx
    rcases List.mem_append.mp hx with z | z
    · exact .inl (List.mem_append.mpr (W.snd x z))
    · exact .inr z
  · obtain ⟨ha, h1, _⟩ := (f2 x).mp hx
    obtain ⟨y, hy, hxy⟩ := mall.mp ha
    exact .s (W.lyP y hy) hxy ((hz ha).2.mp h1)
  · rw [f1]
    rcases List.mem_append.mp hy with z | z
    · exact (W.dnS y z).imp id fun q => List.mem_append.mpr (.inl q)
    · exact (W.lyS y z).imp id fun q => List.mem_append.mpr (.inl q)
  · rw [f1]
    exact .inr (List.mem_append.mpr (.inr hx))
  · rw [f1] at hx
    rcases List.mem_append.mp hx with z | z
    · exact W.snL x z
    · obtain ⟨ha, h1, _⟩ := (f2 x).mp z
      obtain ⟨y, hy, hxy⟩ := mall.mp ha
      have hxR := A.cl y (lyR y hy) x hxy ((hz ha).2.mp h1)
      rcases W.lyS y hy with e | q
      · rw [e] at hxy
        exact .one hxy hxR
      · exact .more (W.snL y q) hxy hxR
  · by_cases c : j < k
    · exact List.mem_append.mpr (.inl (W.dis j c y hp))
    · have : j = k := by omega
      rw [this] at hp
      exact kdn y hp
  · rw [f6]
    constructor
    · rintro (z | z)
      · obtain ⟨y, hy, e⟩ := W.bkI.mp z
        exact ⟨y, List.mem_append.mpr (.inl hy), e⟩
      · obtain ⟨y, hy, e⟩ := mall.mp z
        exact ⟨y, List.mem_append.mpr (.inr hy), e⟩
    · rintro ⟨y, hy, e⟩
      rcases List.mem_append.mp hy with z | z
      · exact .inl (W.bkI.mpr ⟨y, z, e⟩)
      · exact .inr (mall.mpr ⟨y, z, e⟩)
  · obtain ⟨e1, e2⟩ := f4.mp e
    rcases List.mem_append.mp hy with z | z
    · exact W.lt0 e1 y z x hx
    · have ha := mall.mpr ⟨y, z, hx⟩
      exact fun q => e2 x ha ((hz ha).1.mpr q)
  · rcases f5 l e with z | ⟨z1, z2, x, ha, z3⟩
    · exact W.lt1 l z
    · obtain ⟨y, hy, hxy⟩ := mall.mp ha
      exact ⟨k, y, x, z2, W.lyP y hy, hxy, (hz ha).1.mp z3, fun i hi y hp => W.lt0 z1 y (W.dis i hi y hp)⟩
/-- THE END of the walk -/
theorem Wi.done {R : List Stn} {h : Stn} {k L S : Nat} {dn sn : List Stn} {lt : Option Nat} {bk : Bool} (A : Asc R) (hR : h ∈ R) (hs : srtI h = h) (hB : Bx L (S : Int) h) (hL : 3 ≤ L) (W : Wi R h k dn [] sn lt bk) : lt = some (fwU h) ∧ (bk = true ↔ Lead nxI R h h) := by
  have all : ∀ {j y}, Pn h j y → y ∈ dn := fun {j y} p => by
    induction p with
    | z => exact W.hin.resolve_right fun z => nomatch z
    | s p hx h0 ih => exact (W.snd _ (W.clo _ ih _ hx h0)).resolve_right fun z => nomatch z
  obtain ⟨hz, hm⟩ := fwU_least hB hL
  obtain ⟨j, y, z, e, hp, hzy, h0⟩ := zr_pre hs (A.pos h hR) hz hm
  constructor
  · cases hl : lt with
    | none => exact absurd h0 (W.lt0 hl y (all hp) z hzy)
    | some l =>
      obtain ⟨j', y', x', e', hp', hx', h0', hmin⟩ := W.lt1 l hl
      have z1 := zr_of hs hp' hx' h0'
      have c1 : ¬ l < fwU h := fun c => hm l c (e' ▸ z1)
      have c2 : ¬ j < j' := fun c => hmin j c y hp z hzy h0
      have : l = fwU h := by omega
      rw [this]
  · rw [W.bkI]
    constructor
    · rintro ⟨y, hy, e⟩
      rcases W.dnS y hy with q | q
      · rw [q] at e
        exact .one e hR
      · exact .more (W.snL y q) e hR
    · intro q
      have reach : ∀ {x}, Lead nxI R h x → ∃ j, Pn h j x := fun {x} p => by
        induction p with
        | one hx r => exact ⟨1, .s .z hx (A.pos _ r)⟩
        | more p hx r ih =>
          obtain ⟨j, hj⟩ := ih
          exact ⟨j + 1, .s hj hx (A.pos _ r)⟩
      cases q with
      | one hx r => exact ⟨h, all .z, hx⟩
      | more p hx r =>
        obtain ⟨j, hj⟩ := reach p
        exact ⟨_, all hj, hx⟩
theorem asc_R {m : Nat} {t : Int} (hm : 1 ≤ m) (ht : (m : Int) ≤ t) : Asc (ascF m t 1) ∧ ∀ x ∈ ascF m t 1, srtI x = x := by
  have bx := ascF_bx hm ht
  have up := ascF_up m t 1 hm (by decide) (by omega)
  have key : ∀ x ∈ ascF m t 1, ∀ y ∈ nxI x, y.length = m ∧ y.sum = t ∧ y.Pairwise (· ≤ ·) ∧ ∀ a ∈ y, 0 ≤ a := fun x hx y hy => by
    obtain ⟨z, hz, rfl⟩ := List.mem_map.mp hy
    have hB := (bx x hx).1.next hz
    have p := srtI_perm z
    exact ⟨p.length_eq.trans hB.1, (perm_sum p).trans hB.2.2, srtI_sorted z, fun a ha => (bx_le hB a (p.mem_iff.mp ha)).1⟩
  refine ⟨⟨fun x hx => (bx x hx).2, fun x hx y hy h0 => ?_, fun x hx y hy => ?_⟩, fun x hx => (srtI_one (.refl _) (up x hx)).symm⟩
  · obtain ⟨k1, k2, k3, k4⟩ := key x hx y hy
    refine ascF_all m t 1 y hm k1 k2 k3 fun a ha => ?_
    have h1 := k4 a ha
    have h2 : a ≠ 0 := fun e => h0 (e ▸ ha)
    omega
  · obtain ⟨k1, k2, k3, k4⟩ := key x hx y hy
    match y, k1 with
    | [], k1 => simp at k1; omega
    | a :: r, _ =>
      have ha := k4 a List.mem_cons_self
      obtain ⟨p1, p2⟩ := List.pairwise_cons.mp k3
      have hg : (a :: r).getD 0 0 = a := rfl
      rw [hg]
      constructor
      · constructor
        · intro e; rw [e]; exact List.mem_cons_self
        · intro e
          rcases List.mem_cons.mp e with z | z
          · exact z.symm
          · have := p1 0 z
            omega
      · constructor
        · intro e z
          rcases List.mem_cons.mp z with q | q
          · omega
          · have := p1 0 q
            omega
        · intro e
          have : a ≠ 0 := fun z => e (by rw [z]; exact List.mem_cons_self)
          omega
end Hd
set_option maxHeartbeats 4000000
/-! The law's own steps; what changes and what stays. -/
namespace Hd
open PySem PySem.Spec PyProof.Rows L2
def mutO : HO → Bool
  | .lst _ => true
  | .dK _ => true
  | .dT _ => true
  | _ => false
/-- what stands at no place of M, or never changes, stands as it stood -/
structure Chg (M : List Addr) (H H' : Hp) : Prop where
  keep : ∀ a o, H a = some o → (mutO o = false ∨ a ∉ M) → H' a = some o
  there : ∀ a o, H a = some o → ∃ o', H' a = some o'
theorem Chg.refl {M : List Addr} {H : Hp} : Chg M H H := ⟨fun _ _ e _ => e, fun _ o e => ⟨o, e⟩⟩
theorem Chg.of {M : List Addr} {H H' : Hp} (s : Same H H') : Chg M H H' := ⟨fun a o e _ => s a o e, fun a o e => ⟨o, s a o e⟩⟩
theorem Chg.trans {M : List Addr} {H H1 H2 : Hp} (a : Chg M H H1) (b : Chg M H1 H2) : Chg M H H2 :=
  ⟨fun x o e n => b.keep x o (a.keep x o e n) n, fun x o e => by
    obtain ⟨o1, e1⟩ := a.there x o e
    exact b.there x o1 e1⟩
theorem Chg.mono {M N : List Addr} {H H' : Hp} (c : Chg M H H') (h : ∀ a ∈ M, a ∈ N) : Chg N H H' := ⟨fun a o e n => c.keep a o e (n.imp id fun z q => z (h a q)), c.there⟩
theorem Chg.upd {M : List Addr} {H H' : Hp} {a : Addr} {o : HO} (c : Chg M H H') (h : a ∈ M) (m : ∀ u, H' a = some u → mutO u = true) : Chg M H (upd H' a o) :=
  ⟨fun x u e n => by
    have e' := c.keep x u e n
    by_cases q : x = a
    · subst q
      rcases n with n | n
      · rw [m u e'] at n
        cases n
      · exact absurd h n
    · rw [upd_ne q]
      exact e', fun x u e => by
    by_cases q : x = a
    · exact ⟨o, by rw [q, upd_same]⟩
    · rw [upd_ne q]
      exact c.there x u e⟩
theorem Chg.free {M : List Addr} {H H' : Hp} {p : Addr} (c : Chg M H H') (h : H' p = none) : H p = none := by
  cases e : H p with
  | none => rfl
  | some o =>
    obtain ⟨o', e'⟩ := c.there p o e
    rw [h] at e'
    cases e'
theorem Chg.new {M : List Addr} {H H1 : Hp} {p : Addr} {o : HO} (c : Chg M H H1) (hp : H1 p = none) : Chg M H (L2.upd H1 p o) := c.trans (.of (Same.new hp))
theorem Chg.tup {M : List Addr} {K : PySem.W.Frag} {H H' : Hp} {a : Addr} {xs : List V} (c : Chg M H H') (h : SqT K H a xs) : SqT K H' a xs := by
  rcases h with (h | ⟨o, h⟩) | h
  · exact .inl (.inl (c.keep _ _ h (.inl rfl)))
  · exact .inl (.inr ⟨o, c.keep _ _ h (.inl rfl)⟩)
  · exact .inr h
theorem Chg.st {M : List Addr} {K : PySem.W.Frag} {H H' : Hp} {n : Nat} {p : Srow} (c : Chg M H H') (h : StAt K H n p) : StAt K H' n p := ⟨c.tup h.1, h.2⟩
/-- what was not there may change -/
theorem Same.chg {M : List Addr} {H H1 H2 : Hp} (s : Same H H1) (c : Chg M H1 H2) (h : ∀ a ∈ M, H a = none) : Same H H2 := fun a o e => c.keep a o (s a o e) (.inr fun q => by rw [h a q] at e; cases e)
theorem Kept.chg {h c : Addr} {H H' : Hp} (k : Kept h c H H') (d : DrawAt H h c) (d' : DrawAt H' h c) : Chg [h, c] H H' := by
  obtain ⟨⟨st, ix, cells, h1, h2, h3⟩, ne⟩ := d
  obtain ⟨⟨st', ix', cells', h1', h2', h3'⟩, ne'⟩ := d'
  refine ⟨fun a o e n => ?_, fun a o e => ?_⟩
  · refine k a o e ?_ ?_
    · rintro rfl
      rcases n with n | n
      · rw [h1] at e
        cases e
        cases n
      · exact n (List.mem_cons_self ..)
    · rintro rfl
      rcases n with n | n
      · rw [h2] at e
        cases e
        cases n
      · exact n (List.mem_cons_of_mem _ (List.mem_cons_self ..))
  · by_cases q1 : a = h
    · exact ⟨_, by rw [q1]; exact h1'⟩
    · by_cases q2 : a = c
      · exact ⟨_, by rw [q2]; exact h2'⟩
      · exact ⟨o, k a o e q1 q2⟩
theorem DrawAt.chg {M : List Addr} {H H' : Hp} {h c : Addr} (d : DrawAt H h c) (g : Chg M H H') (n1 : h ∉ M) (n2 : c ∉ M) : DrawAt H' h c := by
  obtain ⟨⟨st, ix, cells, h1, h2, h3⟩, ne⟩ := d
  exact ⟨⟨st, ix, cells, g.keep _ _ h1 (.inr n1), g.keep _ _ h2 (.inr n2), h3⟩, ne⟩
section
variable {P : Program} {w : World} {K : PySem.W.Frag} {mg : Str → Option Value} {base : Heap}
abbrev s_l_can : Stmt := top 41
theorem sc_l_can : FnScope ["_law_heaps_here", "_law_step"] ["_law_heaps_here", "_law_step"] (defScope s_l_can) := ⟨rfl, rfl, rfl, by decide +kernel, rfl, by decide +kernel, by decide +kernel⟩
theorem ok_l_can {f : Addr} {fd : FuncData} (F : Fun K "_law_can" "_law_can" s_l_can f fd) : FnOk P w K mg base CX0 1 f fd ["_law_heaps_here", "_law_step"] (spCan K) := by
  refine F.ok sc_l_can (fun vs H Q E h => ?_) (fun cdv A outer s H vs Q E hr h => ?_)
  · obtain ⟨t, u, ns, i, j, rfl, _⟩ := h
    rfl
  · obtain ⟨t, u, ns, i, j, rfl, hS, hU, hi, hj, k⟩ := h
    refine ⟨_, (pss_one (ps_ret (pe_chain op_lt op_le pe_int (pe_ix ix_tup (pv 0) (pe_ix ix_tup (pv 1) pe_int (fun _ _ => rfl)) (fun _ _ => rfl)) (pe_ix ix_tup (pv 0) (pe_ix ix_tup (pv 1) pe_int (fun _ _ => rfl)) (fun _ _ => rfl))))), ?_⟩
    refine ⟨_, rfl, _, rfl, u, _, _, _, rfl, rfl, hU, rfl, t, _, _, _, rfl, rfl, hS, at_of rfl (getD_at hj), _, _, rfl, rfl, _, rfl, ?_⟩
    unfold can at k
    cases hd : decide (0 < ns.getD j 0) with
    | false =>
      rw [hd] at k
      exact iteF k
    | true =>
      rw [hd] at k
      exact iteT ⟨_, rfl, _, rfl, u, _, _, _, rfl, rfl, hU, rfl, t, _, _, _, rfl, rfl, hS, at_of rfl (getD_at hi), _, _, rfl, rfl, k⟩
abbrev s_l_behind : Stmt := top 42
theorem sc_l_behind : FnScope ["_law_heaps_here", "_law_step", "_law_row"] ["_law_heaps_here", "_law_step"] (defScope s_l_behind) := ⟨rfl, rfl, rfl, by decide +kernel, rfl, by decide +kernel, by decide +kernel⟩
theorem ok_l_behind {f : Addr} {fd : FuncData} (F : Fun K "_law_behind" "_law_behind" s_l_behind f fd) (T : Tx K mg) : FnOk P w K mg base CX0 1 f fd ["_law_heaps_here", "_law_step"] (spBehind K) := by
  refine F.ok sc_l_behind (fun vs H Q E h => ?_) (fun cdv A outer s H vs Q E hr h => ?_)
  · obtain ⟨t, u, ns, i, j, rfl, _⟩ := h
    rfl
  · obtain ⟨t, u, ns, i, j, rfl, hS, hU, hi, hj, hij, k⟩ := h
    refine ⟨_, (pss_cons (ps_set (i := 2) sc_l_behind.nd rfl (Or.inl rfl) (pe_callTy call_list_of (by rfl) T.list (by decide +kernel) (pa_cons (pv 0) pa_nil)))
      (pss_cons (ps_asg (pe_op op_sub (pe_ix ix_list (pv 2) (pe_ix ix_tup (pv 1) pe_int (fun _ _ => rfl)) (fun _ _ => rfl)) (pe_ix ix_tup (pv 0) (pe_ix ix_tup (pv 1) pe_int (fun _ _ => rfl)) (fun _ _ => rfl))) (pg_sub (pv 2) (pe_ix ix_tup (pv 1) pe_int (fun _ _ => rfl)) set_list))
      (pss_cons (ps_asg (pe_op op_add (pe_ix ix_list (pv 2) (pe_ix ix_tup (pv 1) pe_int (fun _ _ => rfl)) (fun _ _ => rfl)) (pe_ix ix_tup (pv 0) (pe_ix ix_tup (pv 1) pe_int (fun _ _ => rfl)) (fun _ _ => rfl))) (pg_sub (pv 2) (pe_ix ix_tup (pv 1) pe_int (fun _ _ => rfl)) set_list))
      (pss_one (ps_ret (pe_callTy call_tuple_of (by rfl) T.tuple (by decide +kernel) (pa_cons (pv 2) pa_nil))))))), ?_⟩
    refine ⟨_, rfl, t, _, rfl, .inr hS, fun l hl => ?_⟩
    have s1 : Same H (upd H l (.lst (ns.map V.int))) := Same.new hl
    refine ⟨_, rfl, _, rfl, u, _, _, _, rfl, rfl, Same.tup s1 hU, rfl, l, _, _, _, rfl, rfl, SqL.of upd_same, at_of rfl (getD_at hi), _, rfl, _, rfl, u, _, _, _, rfl, rfl, Same.tup s1 hU, rfl, t, _, _, _, rfl, rfl, Same.tup s1 hS, at_of rfl (getD_at hj), _, _, rfl, rfl, ?_⟩
    refine ⟨_, rfl, _, rfl, u, _, _, _, rfl, rfl, Same.tup s1 hU, rfl, l, _, _, i, rfl, rfl, upd_same, (by rw [List.length_map]; exact ixN_nat hi), ?_⟩
    rw [upd_upd]
    have s2 : Same H (upd H l (.lst ((ns.map V.int).set i (.int (ns.getD i 0 - ns.getD j 0))))) := Same.new hl
    refine ⟨_, rfl, _, rfl, u, _, _, _, rfl, rfl, Same.tup s2 hU, rfl, l, _, _, _, rfl, rfl, SqL.of upd_same, at_of rfl (by rw [List.getElem?_set_ne hij]; exact getD_at hj), _, rfl, _, rfl, u, _, _, _, rfl, rfl, Same.tup s2 hU, rfl, t, _, _, _, rfl, rfl, Same.tup s2 hS, at_of rfl (getD_at hj), _, _, rfl, rfl, ?_⟩
    refine ⟨_, rfl, _, rfl, u, _, _, _, rfl, rfl, Same.tup s2 hU, rfl, l, _, _, j, rfl, rfl, upd_same, (by rw [List.length_set, List.length_map]; exact ixN_nat hj), ?_⟩
    rw [upd_upd]
    refine ⟨_, rfl, l, _, rfl, .inl ⟨SqL.of upd_same, fun p hp => ?_⟩⟩
    have hpl : p ≠ l := fun e => by
      rw [e, upd_same] at hp
      cases hp
    have hp0 : H p = none := by
      rw [upd_ne hpl] at hp
      exact hp
    refine k p _ (same_upd (Same.new hl) hp0) hp0 ?_
    rw [upd_same]
    unfold mv shf
    rw [List.map_set, List.map_set]
abbrev s_l_pairs : Stmt := top 43
theorem sc_l_pairs : FnScope ["_law_size", "_law_found", "_law_one", "_law_other"] ["_law_size"] (defScope s_l_pairs) := ⟨rfl, rfl, rfl, by decide +kernel, rfl, by decide +kernel, by decide +kernel⟩
theorem ok_l_pairs {f : Addr} {fd : FuncData} (F : Fun K "_law_pairs" "_law_pairs" s_l_pairs f fd) (T : Tx K mg) : FnOk P w K mg base CX0 1 f fd ["_law_size"] (spPairs K) := by
  refine F.ok sc_l_pairs (fun vs H Q E h => ?_) (fun cdv A outer s H vs Q E hr h => ?_)
  · obtain ⟨n, rfl, _⟩ := h
    rfl
  · obtain ⟨n, rfl, hn, k⟩ := h
    refine ⟨_, (pss_cons (ps_set (i := 1) sc_l_pairs.nd rfl (Or.inl rfl) (pe_lst pa_nil))
      (pss_cons (ps_for PassesOwn.never rfl (pi_range1 rfl T.range (pa_cons (pv 0) pa_nil)) (pg_name (i := 2) sc_l_pairs.nd rfl (Or.inr rfl))
      (pss_one (ps_set (i := 1) sc_l_pairs.nd rfl (Or.inl rfl) (pe_op op_cat (pv 1) (pe_lc (own := [("_law_other", 3)]) (g := gName 3) (by rfl) sc_l_pairs.nd (pi_range1 rfl T.range (pa_cons (pv 0) pa_nil)) (blkOk_by (own := [("_law_other", 3)]) (N := ["_law_size", "_law_found", "_law_one", "_law_other"]) (sc := defScope s_l_pairs) (by decide +kernel)) (fun _ _ _ _ _ => pg_name (i := 3) sc_l_pairs.nd rfl (Or.inl rfl)) (fun _ _ _ _ _ => pts_one (pt_cmpR op_ne (pv 3) (pv 2) (nomark _))) (fun _ _ _ _ _ => (pe_tup (pa_cons (pv 2) (pa_cons (pv 3) pa_nil)))))))))
      (pss_one (ps_ret (pv 1))))), ?_⟩
    refine ⟨by show 0 ≤ sizeLine; decide, fun l0 hl0 => ?_⟩
    refine ⟨_, rfl, _, rfl, by omega, by omega, ?_⟩
    rw [Int.toNat_natCast]
    refine for_range (lo := 0) (n := n) (fun i σ H1 => ∃ (l : Addr) (qs : List (Addr × Nat × Nat)) (v1 v2 : Option V), σ = [some (.int (n : Int)), some (.ref l), v1, v2] ∧ Same H H1 ∧ H l = none ∧ PrL K H1 l n qs ∧ qs.map (·.2) = prsTo n i) ⟨l0, [], none, none, rfl, Same.new hl0, hl0, ⟨upd_same, fun p hp => (nomatch hp)⟩, rfl⟩ ?_ ?_
    · rintro i σ H1 hi ⟨l, qs, v1, v2, rfl, s1, hl, hP, hq⟩
      rw [Int.zero_add]
      have hql : qs.length ≤ 36 := by
        have e := congrArg List.length hq
        rw [List.length_map] at e
        rw [e]
        exact prsTo_short hn i (by omega)
      refine ⟨_, rfl, _, rfl, _, rfl, by omega, by omega, ?_⟩
      rw [Int.toNat_natCast]
      intro D hD
      refine lc_range (lo := 0) (n := n) (fun j H2 => ∃ rs : List (Addr × Nat × Nat), Same H1 H2 ∧ PrL K H2 D n rs ∧ rs.map (·.2) = rowTo i j) ⟨[], Same.new hD, ⟨upd_same, fun p hp => (nomatch hp)⟩, rfl⟩ ?_ ?_
      · rintro j H2 hj ⟨rs, s2, hR, hr2⟩
        rw [Int.zero_add]
        refine ⟨rfl, _, rfl, _, rfl, rfl, _, rfl, ?_⟩
        rw [dec_int]
        have hrl : rs.length ≤ j := by
          have e := congrArg List.length hr2
          rw [List.length_map] at e
          rw [e]
          unfold rowTo
          rw [List.length_map]
          exact Nat.le_trans (List.length_filter_le _ _) (by rw [List.length_range]; exact Nat.le_refl _)
        by_cases hji : j = i
        · have z : decide ((j : Int) = (i : Int)) = true := decide_eq_true (by omega)
          rw [z]
          refine iteF ⟨rs, s2, hR, ?_⟩
          rw [rowTo_succ, if_pos hji, List.append_nil]
          exact hr2
        · have z : decide ((j : Int) = (i : Int)) = false := decide_eq_false (by omega)
          rw [z]
          refine iteT ⟨_, rfl, _, rfl, by show 2 ≤ sizeLine; decide, fun TT hT => ?_⟩
          have s3 : Same H2 (upd H2 TT (.tup [.int (i : Int), .int (j : Int)])) := Same.new hT
          refine ⟨_, s3 _ _ hR.ls, ?_, rs ++ [(TT, i, j)], same_upd (s2.trans s3) hD, ⟨?_, fun p hp => ?_⟩, ?_⟩
          · rw [List.length_map, sizeLine_eq]
            omega
          · rw [upd_same, List.map_append]
            rfl
          · have nTD : TT ≠ D := (ne_of_none hR.ls hT).symm
            rcases List.mem_append.mp hp with hp | hp
            · obtain ⟨a, b⟩ := hR.st p hp
              refine ⟨?_, b⟩
              have a3 := Same.tup s3 a
              have a4 : SqT K (upd (upd H2 TT (.tup [.int (i : Int), .int (j : Int)])) D (.lst (rs.map (fun p => V.ref p.1) ++ [V.ref TT]))) p.1 [.int (p.2.1 : Int), .int (p.2.2 : Int)] := by
                rcases a3 with (a3 | ⟨o, a3⟩) | a3
                · exact .inl (.inl (by rw [upd_ne (ne_of a3 (s3 _ _ hR.ls) (by intro z; cases z))]; exact a3))
                · exact .inl (.inr ⟨o, by rw [upd_ne (ne_of a3 (s3 _ _ hR.ls) (by intro z; cases z))]; exact a3⟩)
                · exact .inr a3
              exact a4
            · have ep : p = (TT, i, j) := by simpa using hp
              subst ep
              exact ⟨SqT.of (by rw [upd_ne nTD, upd_same]), hi, hj, fun z => hji z.symm⟩
          · rw [List.map_append, hr2, rowTo_succ, if_neg hji]
            rfl
      · rintro H2 ⟨rs, s2, hR, hr2⟩
        refine ⟨l, D, _, _, rfl, rfl, s2 _ _ hP.ls, hR.ls, ?_, fun p hp => ?_⟩
        · have e := congrArg List.length hr2
          rw [List.length_map] at e
          unfold rowTo at e
          rw [List.length_map] at e
          have := List.length_filter_le (fun j => decide (j ≠ i)) (List.range n)
          rw [List.length_range] at this
          rw [List.length_map, List.length_map, sizeLine_eq]
          omega
        have s3 : Same H2 (upd H2 p (.lst (qs.map (fun p => V.ref p.1) ++ rs.map (fun p => V.ref p.1)))) := Same.new hp
        have s4 := (s1.trans s2).trans s3
        refine ⟨p, qs ++ rs, _, _, rfl, s4, (s1.trans s2).free hp, ⟨by rw [upd_same, List.map_append], fun q hq' => ?_⟩, by rw [List.map_append, hq, hr2, prsTo_succ]; rfl⟩
        rcases List.mem_append.mp hq' with hq' | hq'
        · exact (hP.same (s2.trans s3)).st q hq'
        · exact (hR.same s3).st q hq'
    · rintro σ H1 ⟨l, qs, v1, v2, rfl, s1, hl, hP, hq⟩
      exact ⟨_, rfl, k l qs H1 s1 hl hP hq⟩
end
end Hd
set_option maxHeartbeats 8000000
/-! The law of the hardest heaps: its own lists. -/
namespace Hd
open PySem PySem.Spec PyProof.Rows L2 StX
theorem op_catTK {X : Cx} {K : PySem.W.Frag} (hK : X.K = K) : OpR X (binaryOp .Add) (rCatT K) := hK ▸ op_catT
theorem everF_len : ∀ (m : Nat) (t l : Int), t ≤ 40 → 0 ≤ l → (everF m t l).length ≤ 41 ^ m
  | 0, _, _, _, _ => by simp [everF]
  | 1, t, l, _, _ => by
    unfold everF
    split <;> simp
  | m + 2, t, l, ht, hl => by
    unfold everF
    rw [List.length_flatMap]
    have hb : ∀ i ∈ List.range (t + 1 - l).toNat, ((everF (m + 1) (t - (l + i)) (l + i)).map fun r => (l + (i : Int)) :: r).length ≤ 41 ^ (m + 1) := fun i _ => by
      rw [List.length_map]
      exact everF_len (m + 1) _ _ (by omega) (by omega)
    have hs : ∀ (xs : List Nat) (f : Nat → Nat) (b : Nat), (∀ i ∈ xs, f i ≤ b) → (xs.map f).sum ≤ xs.length * b := by
      intro xs f b h
      induction xs with
      | nil => simp
      | cons x xs ih =>
        have h1 := h x List.mem_cons_self
        have h2 := ih fun i hi => h i (List.mem_cons_of_mem _ hi)
        rw [List.map_cons, List.sum_cons, List.length_cons, Nat.succ_mul]
        omega
    have h3 := hs _ _ _ hb
    rw [List.length_range] at h3
    have h4 : (t + 1 - l).toNat * 41 ^ (m + 1) ≤ 41 * 41 ^ (m + 1) := Nat.mul_le_mul_right _ (by omega)
    have h5 : 41 ^ (m + 2) = 41 * 41 ^ (m + 1) := by rw [Nat.pow_succ, Nat.mul_comm]
    omega
theorem everF_mem : ∀ (m : Nat) (t l : Int) (x : Stn), x ∈ everF m t l → x.length = m
  | 0, _, _, x, h => by simp [everF] at h
  | 1, t, l, x, h => by
    unfold everF at h
    split at h
    · rw [List.mem_singleton.mp h]; rfl
    · cases h
  | m + 2, t, l, x, h => by
    unfold everF at h
    obtain ⟨i, _, h⟩ := List.mem_flatMap.mp h
    obtain ⟨r, hr, rfl⟩ := List.mem_map.mp h
    rw [List.length_cons, everF_mem (m + 1) _ _ r hr]
def spEvery (K : PySem.W.Frag) (m : Nat) : Sp := fun vs H Q _ => ∃ (k : Nat) (t l : Int), vs = [.int (k : Int), .int t, .int l] ∧ 1 ≤ k ∧ k ≤ m ∧ k ≤ 4 ∧ t ≤ 40 ∧ 0 ≤ t ∧ 0 ≤ l ∧ l ≤ 1000 ∧
  ∀ (p : Addr) (hs : List Hrow) (H' : Hp), Same H H' → H p = none → H' p = some (.lst (hs.map fun q => V.ref q.1)) → (∀ q ∈ hs, H' q.1 = some (.tup (q.2.map V.int))) → hs.map (·.2) = everF k t l → Q (.ref p) H'
def spNxt (K : PySem.W.Frag) : Sp := fun vs H Q _ => ∃ (t : Addr) (ns : Stn), vs = [.ref t] ∧ H t = some (.tup (ns.map V.int)) ∧ ns.length ≤ 6 ∧
  ∀ (l : Addr) (hs : List Hrow) (H' : Hp), Same H H' → H l = none → H' l = some (.lst (hs.map fun q => V.ref q.1)) → (∀ q ∈ hs, H' q.1 = some (.tup (q.2.map V.int))) → hs.map (·.2) = nxI ns → Q (.ref l) H'
section
variable {P : Program} {w : World} {K : PySem.W.Frag} {mg : Str → Option Value} {base : Heap}
abbrev s_l_next_heaps : Stmt := top 45
theorem sc_l_next_heaps : FnScope ["_law_heaps_here", "_law_found", "_law_step"] ["_law_heaps_here"] (defScope s_l_next_heaps) := ⟨rfl, rfl, rfl, by decide +kernel, rfl, by decide +kernel, by decide +kernel⟩
theorem ok_l_next_heaps {f : Addr} {fd : FuncData} (F : Fun K "_law_next_heaps" "_law_next_heaps" s_l_next_heaps f fd) (T : Tz mg) (C_l_pairs : Cal P w K mg base CX0 1 "_law_pairs" ["_law_size"] (spPairs K)) (C_l_can : Cal P w K mg base CX0 1 "_law_can" ["_law_heaps_here", "_law_step"] (spCan K)) (C_l_behind : Cal P w K mg base CX0 1 "_law_behind" ["_law_heaps_here", "_law_step"] (spBehind K)) : FnOk P w K mg base CX0 2 f fd ["_law_heaps_here"] (spNxt K) := by
  refine F.ok sc_l_next_heaps (fun vs H Q E h => ?_) (fun cdv A outer s H vs Q E hr h => ?_)
  · obtain ⟨t, ns, rfl, _⟩ := h
    rfl
  · obtain ⟨t, ns, rfl, hT, h6, k⟩ := h
    refine ⟨_, (pss_cons (ps_set (i := 1) sc_l_next_heaps.nd rfl (Or.inl rfl) (pe_lst pa_nil))
      (pss_cons (ps_for PassesOwn.never rfl (pi_list (pe_cal C_l_pairs hr rfl pass0 (pa_cons (pe_callB call_len_seq (by rfl) T.len PySem.boot_len (pa_cons (pv 0) pa_nil)) pa_nil))) (pg_name (i := 2) sc_l_next_heaps.nd rfl (Or.inl rfl))
      (pss_one (ps_if (pt_val (pe_cal C_l_can hr rfl pass0 (pa_cons (pv 0) (pa_cons (pv 2) pa_nil)))) (pss_one (ps_expr (pe_bm PySem.F.plainAttrs_list PySem.F.slot_list_append PySem.F.type_list_append mt_append (pv 1) (pa_cons (pe_callTy call_tuple_of (by rfl) T.tuple (by decide +kernel) (pa_cons (pe_callB cr_sortTI (by rfl) T.sorted (by decide +kernel) (pa_cons (pe_cal C_l_behind hr rfl pass0 (pa_cons (pv 0) (pa_cons (pv 2) pa_nil))) pa_nil)) pa_nil)) pa_nil)))) pss_nil)))
      (pss_one (ps_ret (pv 1))))), ?_⟩
    refine ⟨by show 0 ≤ sizeLine; decide, fun D hD => ?_⟩
    have tl0 : TL H (upd H D (.lst [])) D [] := TL.new hD
    generalize upd H D (.lst []) = H1 at tl0 ⊢
    refine ⟨_, rfl, t, _, rfl, .inr (SqT.of (tl0.sm _ _ hT)), ns.length, by rw [List.length_map], h6, fun lp qs H2 s2 hlp hQ hq => ⟨lp, rfl, ⟨_, SqL.of hQ.ls⟩, ?_⟩⟩
    have tl2 := tl0.mono s2
    have nlD : lp ≠ D := (ne_of_none tl0.ls hlp).symm
    have hql : qs.length ≤ 36 := by
      have e := congrArg List.length hq
      rw [List.length_map] at e
      rw [e]
      exact prs_short h6
    refine for_list (K := K) (a := lp) (xs := qs.map fun p => V.ref p.1) (fun j σ H3 => ∃ (x2 : Option V) (gs : List Hrow), σ = [some (.ref t), some (.ref D), x2] ∧ TL H H3 D gs ∧ gs.map (·.2) = ((((qs.map (·.2)).take j).filter fun p => can ns p.1 p.2).map fun p => srtI (mv ns p.1 p.2)) ∧ ∀ b u, b ≠ D → H2 b = some u → H3 b = some u) ⟨none, [], rfl, tl2, by simp, fun b u _ e => e⟩ ?_ ?_ ?_
    · rintro j σ H3 _ ⟨_, _, _, _, _, k3⟩
      exact SqL.of (k3 _ _ nlD hQ.ls)
    · rintro j x σ H3 hx ⟨x2, gs, rfl, tl3, hg, k3⟩
      rw [List.getElem?_map] at hx
      obtain ⟨q, hq1, rfl⟩ := Option.map_eq_some_iff.mp hx
      obtain ⟨a1, a2, a3, a4⟩ := hQ.st q (List.mem_of_getElem? hq1)
      have hqp : (qs.map (·.2))[j]? = some q.2 := by rw [List.getElem?_map, hq1]; rfl
      have hj : j < qs.length := (List.getElem?_eq_some_iff.mp hq1).1
      have sq3 : SqT K H3 q.1 [.int (q.2.1 : Int), .int (q.2.2 : Int)] := by
        rcases a1 with (h | ⟨o, h⟩) | h
        · exact .inl (.inl (k3 _ _ (ne_of h tl2.ls (by intro z; cases z)) h))
        · exact .inl (.inr ⟨o, k3 _ _ (ne_of h tl2.ls (by intro z; cases z)) h⟩)
        · exact .inr h
      have hT3 := tl3.sm _ _ hT
      refine ⟨_, rfl, _, rfl, t, q.1, ns, q.2.1, q.2.2, rfl, SqT.of hT3, sq3, a2, a3, _, rfl, ?_⟩
      cases hcan : can ns q.2.1 q.2.2 with
      | false =>
        refine iteF ⟨_, gs, rfl, tl3, ?_, k3⟩
        rw [filter_take hqp, hg, hcan, if_neg (by decide), List.append_nil]
      | true =>
        refine iteT ⟨_, rfl, .inl ⟨rfl, _, SqL.of tl3.ls⟩, ?_⟩
        refine ⟨_, rfl, _, rfl, t, q.1, ns, q.2.1, q.2.2, rfl, SqT.of hT3, sq3, a2, a3, a4, fun y H4 s4 hy hy4 => ?_⟩
        have tl4 := tl3.mono s4
        refine ⟨y, mv ns q.2.1 q.2.2, rfl, SqT.of hy4, fun zs p hzp hzs hp => ⟨p, _, rfl, .inl ⟨SqL.of upd_same, fun tt htt => ?_⟩⟩⟩
        have ez := srtI_one hzp hzs
        subst ez
        have s5 : Same H4 (upd (upd H4 p (.lst ((srtI (mv ns q.2.1 q.2.2)).map V.int))) tt (.tup ((srtI (mv ns q.2.1 q.2.2)).map V.int))) := (Same.new hp).trans (Same.new htt)
        have ht5 : (upd (upd H4 p (.lst ((srtI (mv ns q.2.1 q.2.2)).map V.int))) tt (.tup ((srtI (mv ns q.2.1 q.2.2)).map V.int))) tt = some (.tup ((srtI (mv ns q.2.1 q.2.2)).map V.int)) := upd_same
        generalize upd (upd H4 p (.lst ((srtI (mv ns q.2.1 q.2.2)).map V.int))) tt (.tup ((srtI (mv ns q.2.1 q.2.2)).map V.int)) = H5 at s5 ht5 ⊢
        have tl5 := tl4.mono s5
        have hgl : gs.length ≤ 36 := by
          have e := congrArg List.length hg
          rw [List.length_map, List.length_map] at e
          have e2 := List.length_filter_le (fun p : Nat × Nat => can ns p.1 p.2) ((qs.map (·.2)).take j)
          rw [List.length_take, List.length_map] at e2
          omega
        refine ⟨D, _, _, rfl, rfl, tl5.ls, by rw [List.length_map, sizeLine_eq]; omega, _, gs ++ [(tt, srtI (mv ns q.2.1 q.2.2))], rfl, tl5.push ht5, ?_, fun b u nb e => ?_⟩
        · rw [List.map_append, hg, filter_take hqp, hcan, if_pos rfl, List.map_append]
          rfl
        · rw [upd_ne nb]
          exact s5 _ _ (s4 _ _ (k3 b u nb e))
    · rintro σ H3 ⟨x2, gs, rfl, tl3, hg, k3⟩
      refine ⟨_, rfl, k D gs H3 tl3.sm tl3.nw tl3.ls tl3.st ?_⟩
      rw [hg, List.length_map, List.take_of_length_le (by rw [List.length_map]; exact Nat.le_refl _), hq]
      show _ = ((due ns).map fun p => mv ns p.1 p.2).map srtI
      rw [List.map_map]
      rfl
abbrev s_l_every : Stmt := top 44
theorem sc_l_every : FnScope ["_law_many", "_law_total", "_law_least", "_law_found", "_law_heap", "_law_rests", "_law_rest"] ["_law_many", "_law_total", "_law_least"] (defScope s_l_every) := ⟨rfl, rfl, rfl, by decide +kernel, rfl, by decide +kernel, by decide +kernel⟩
theorem ok_l_every_0 {f : Addr} {fd : FuncData} (F : Fun K "_law_every" "_law_every" s_l_every f fd) : FnOk P w K mg base CX0 1 f fd ["_law_many", "_law_total", "_law_least"] (spEvery K 0) := by
  refine F.ok sc_l_every (fun vs H Q E h => ?_) (fun cdv A outer s H vs Q E hr h => ?_)
  · obtain ⟨k, t, l, rfl, _⟩ := h
    rfl
  · obtain ⟨k, t, l, rfl, h1, h2, _⟩ := h
    omega
theorem ok_l_every {f : Addr} {fd : FuncData} {m n : Nat} (F : Fun K "_law_every" "_law_every" s_l_every f fd) (T : Tz mg) (C_l_every : Cal P w K mg base CX0 (n + 1) "_law_every" ["_law_many", "_law_total", "_law_least"] (spEvery K m)) : FnOk P w K mg base CX0 (n + 2) f fd ["_law_many", "_law_total", "_law_least"] (spEvery K (m + 1)) := by
  refine F.ok sc_l_every (fun vs H Q E h => ?_) (fun cdv A outer s H vs Q E hr h => ?_)
  · obtain ⟨k, t, l, rfl, _⟩ := h
    rfl
  · obtain ⟨k, t, l, rfl, h1, h2, h4, ht, ht0, hl, hl2, hQ⟩ := h
    refine ⟨_, (pss_cons (ps_if (pt_cmpR op_eq (pv 0) pe_int (nomark _)) (pss_one (ps_ret (pe_ifExp (pt_cmpR op_ge (pv 1) (pv 2) (nomark _)) (pe_lst (pa_cons (pe_tup (pa_cons (pv 1) pa_nil)) pa_nil)) (pe_lst pa_nil)))) pss_nil)
      (pss_cons (ps_set (i := 3) sc_l_every.nd rfl (Or.inl rfl) (pe_lst pa_nil))
      (pss_cons (ps_for PassesOwn.never rfl (pi_range2 rfl T.range (pa_cons (pv 2) (pa_cons (pe_op op_add (pv 1) pe_int) pa_nil))) (pg_name (i := 4) sc_l_every.nd rfl (Or.inr rfl))
      (pss_cons (ps_set (i := 5) sc_l_every.nd rfl (Or.inl rfl) (pe_cal C_l_every hr rfl pass0 (pa_cons (pe_op op_sub (pv 0) pe_int) (pa_cons (pe_op op_sub (pv 1) (pv 4)) (pa_cons (pv 4) pa_nil))) (hk := Nat.le_refl _)))
      (pss_one (ps_set (i := 3) sc_l_every.nd rfl (Or.inl rfl) (pe_op op_cat (pv 3) (pe_lc (own := [("_law_rest", 6)]) (g := gName 6) (by rfl) sc_l_every.nd (pi_list (pv 5)) (blkOk_by (own := [("_law_rest", 6)]) (N := ["_law_many", "_law_total", "_law_least", "_law_found", "_law_heap", "_law_rests", "_law_rest"]) (sc := defScope s_l_every) (by decide +kernel)) (fun _ _ _ _ _ => pg_name (i := 6) sc_l_every.nd rfl (Or.inl rfl)) (fun _ _ _ _ _ => pts_nil) (fun _ _ _ _ _ => (pe_op (op_catTK (K := K) rfl) (pe_tup (pa_cons (pv 4) pa_nil)) (pv 6)))))))))
      (pss_one (ps_ret (pv 3)))))), ?_⟩
    refine ⟨_, rfl, rfl, _, rfl, ?_⟩
    rw [dec_int]
    match k, h1 with
    | 1, _ =>
      refine iteT ⟨_, rfl, _, rfl, _, _, rfl, rfl, _, rfl, ?_⟩
      by_cases c : l ≤ t
      · rw [decide_eq_true c]
        refine iteT ⟨_, rfl, (by show 1 ≤ sizeLine; decide), fun a ha => ⟨(by show 1 ≤ sizeLine; decide), fun p hp => ?_⟩⟩
        have e1 : (upd H a (.tup [.int t])) a = some (.tup [.int t]) := upd_same
        have nap : a ≠ p := ne_of_none e1 hp
        refine hQ p [(a, [t])] _ ((Same.new ha).trans (Same.new hp)) (none_back (Same.new ha) hp) upd_same (fun q hq => ?_) ?_
        · rw [List.mem_singleton.mp hq, upd_ne nap]
          exact e1
        · unfold everF
          rw [if_pos c]
          rfl
      · rw [decide_eq_false c]
        refine iteF ⟨by show 0 ≤ sizeLine; decide, fun p hp => ?_⟩
        refine hQ p [] _ (Same.new hp) hp upd_same (fun q hq => nomatch hq) ?_
        unfold everF
        rw [if_neg c]
        rfl
    | j + 2, _ =>
      rw [decide_eq_false (show ¬ ((j + 2 : Nat) : Int) = 1 by omega)]
      refine iteF ⟨(by show 0 ≤ sizeLine; decide), fun D hD => ?_⟩
      have tl0 : TL H (upd H D (.lst [])) D [] := TL.new hD
      obtain ⟨N, hN⟩ : ∃ N, N = (t + 1 - l).toNat := ⟨_, rfl⟩
      generalize upd H D (.lst []) = H1 at tl0 ⊢
      have hlen : ∀ (i n : Nat), i < N → n ≤ (everF (j + 1) (t - (l + i)) (l + i)).length → ((List.range i).flatMap fun i : Nat => (everF (j + 1) (t - (l + i)) (l + i)).map fun r => (l + (i : Int)) :: r).length + n ≤ 2825761 := fun i n hi hn => by
        have h1 := everF_len (j + 2) t l ht hl
        have h2 : 41 ^ (j + 2) ≤ 41 ^ 4 := Nat.pow_le_pow_right (by decide) (by omega)
        have h3 : (everF (j + 2) t l).length = ((List.range N).flatMap fun i : Nat => (everF (j + 1) (t - (l + i)) (l + i)).map fun r => (l + (i : Int)) :: r).length := by
          rw [hN]
          rfl
        have h4 : (((List.range (i + 1)).flatMap fun i : Nat => (everF (j + 1) (t - (l + i)) (l + i)).map fun r => (l + (i : Int)) :: r).length) ≤ ((List.range N).flatMap fun i : Nat => (everF (j + 1) (t - (l + i)) (l + i)).map fun r => (l + (i : Int)) :: r).length := by
          obtain ⟨d, hd⟩ := Nat.exists_eq_add_of_le (show i + 1 ≤ N by omega)
          rw [hd, show List.range (i + 1 + d) = List.range (i + 1) ++ (List.range d).map (i + 1 + ·) from List.range_add .., List.flatMap_append, List.length_append]
          exact Nat.le_add_right _ _
        rw [List.range_succ, List.flatMap_append, List.length_append] at h4
        have h5 : ([i].flatMap fun i : Nat => (everF (j + 1) (t - (l + i)) (l + i)).map fun r => (l + (i : Int)) :: r).length = (everF (j + 1) (t - (l + i)) (l + i)).length := by simp
        rw [h5, ← h3] at h4
        have h6 := Nat.le_trans h1 h2
        have h7 := Nat.add_le_add_left hn ((List.range i).flatMap fun i : Nat => (everF (j + 1) (t - (l + i)) (l + i)).map fun r => (l + (i : Int)) :: r).length
        have h8 : 41 ^ 4 = 2825761 := by decide
        rw [h8] at h6
        exact Nat.le_trans h7 (Nat.le_trans h4 h6)
      refine ⟨_, rfl, _, rfl, _, _, rfl, rfl, l, t + 1, rfl, ⟨by omega, by omega, by omega, by omega⟩, ?_⟩
      rw [← hN]
      refine for_range (lo := l) (n := N) (fun i σ H2 => ∃ (D' : Addr) (x4 x5 x6 : Option V) (gs : List Hrow), σ = [some (.int ((j + 2 : Nat) : Int)), some (.int t), some (.int l), some (.ref D'), x4, x5, x6] ∧ TL H H2 D' gs ∧ gs.map (·.2) = (List.range i).flatMap fun i : Nat => (everF (j + 1) (t - (l + i)) (l + i)).map fun r => (l + (i : Int)) :: r) ?_ ?_ ?_
      · exact ⟨D, none, none, none, [], rfl, tl0, rfl⟩
      · rintro i σ H2 hi ⟨D', x4, x5, x6, gs, rfl, tl, hg⟩
        refine ⟨_, rfl, _, _, rfl, rfl, _, rfl, _, rfl, _, _, rfl, rfl, _, rfl, j + 1, t - (l + i), l + i, by show [V.int (((j + 2 : Nat) : Int) - 1), V.int (t - (l + i)), V.int (l + i)] = _; rw [show ((j + 2 : Nat) : Int) - 1 = ((j + 1 : Nat) : Int) by omega], by omega, by omega, by omega, by omega, by omega, by omega, by omega, fun lp rs H3 s3 hlp hl3 hr3 hre => ?_⟩
        have tl3 := tl.mono s3
        refine ⟨_, rfl, _, rfl, lp, rfl, ⟨_, SqL.of hl3⟩, fun D2 hD2 => lc_list (K := K) (a := lp) (xs := rs.map fun q => V.ref q.1) (fun n H4 => ∃ ms : List Hrow, TL H3 H4 D2 ms ∧ ms.map (·.2) = ((everF (j + 1) (t - (l + i)) (l + i)).take n).map fun r => (l + (i : Int)) :: r) ⟨[], TL.new hD2, by simp⟩ (fun n H4 _ ⟨ms, tm, _⟩ => SqL.of (tm.sm _ _ hl3)) ?_ ?_⟩
        · rintro n x H4 hx ⟨ms, tm, hm⟩
          rw [List.getElem?_map] at hx
          obtain ⟨q, hq, rfl⟩ := Option.map_eq_some_iff.mp hx
          have hq3 := hr3 q (List.mem_of_getElem? hq)
          have hq4 := tm.sm _ _ hq3
          have hqa : (everF (j + 1) (t - (l + i)) (l + i))[n]? = some q.2 := by rw [← hre, List.getElem?_map, hq]; rfl
          have hql : q.2.length = j + 1 := everF_mem _ _ _ _ (List.mem_of_getElem? hqa)
          have hna := (List.getElem?_eq_some_iff.mp hqa).1
          refine ⟨rfl, _, rfl, (by show 1 ≤ sizeLine; decide), fun a ha => ?_⟩
          have ea : (upd H4 a (.tup [.int (l + (i : Int))])) a = some (.tup [.int (l + (i : Int))]) := upd_same
          have tm5 := tm.mono (Same.new (o := .tup [.int (l + (i : Int))]) ha)
          have hq5 := Same.new (o := .tup [.int (l + (i : Int))]) ha _ _ hq4
          generalize upd H4 a (.tup [.int (l + (i : Int))]) = H5 at ea tm5 hq5 ⊢
          refine ⟨_, rfl, a, q.1, _, _, rfl, rfl, SqT.of ea, SqT.of hq5, by simp, ?_, fun z => ?_, fun _ p hp => ?_⟩
          · rw [List.length_map, hql, sizeLine_eq]
            simp
            omega
          · have := congrArg List.length z
            rw [List.length_map, hql] at this
            simp at this
          · have tm6 := tm5.mono (Same.new (o := .tup ([V.int (l + (i : Int))] ++ q.2.map V.int)) hp)
            have ep : (upd H5 p (.tup ([V.int (l + (i : Int))] ++ q.2.map V.int))) p = some (.tup (((l + (i : Int)) :: q.2).map V.int)) := upd_same
            generalize upd H5 p (.tup ([V.int (l + (i : Int))] ++ q.2.map V.int)) = H6 at tm6 ep ⊢
            have hml : ms.length ≤ 2825761 := by
              have e := congrArg List.length hm
              have e2 := hlen i _ hi (Nat.le_refl _)
              rw [List.length_map, List.length_map, List.length_take] at e
              omega
            refine ⟨_, tm6.ls, by rw [List.length_map, sizeLine_eq]; omega, ms ++ [(p, (l + (i : Int)) :: q.2)], tm6.push ep, ?_⟩
            rw [List.map_append, hm, List.take_add_one, hqa, List.map_append]
            rfl
        · rintro H4 ⟨ms, tm, hm⟩
          have hrl : (rs.map fun q => V.ref q.1).length = (everF (j + 1) (t - (l + i)) (l + i)).length := by rw [← hre, List.length_map, List.length_map]
          rw [hrl, List.take_length] at hm
          have tl4 := tl3.mono tm.sm
          have e1 := congrArg List.length hg
          have e2 := congrArg List.length hm
          have e3 := hlen i _ hi (Nat.le_refl _)
          rw [List.length_map] at e1
          rw [List.length_map, List.length_map] at e2
          refine ⟨D', D2, _, _, rfl, rfl, tl4.ls, tm.ls, by rw [List.length_map, List.length_map, sizeLine_eq]; omega, fun D3 hD3 => ⟨D3, _, _, _, gs ++ ms, rfl, ⟨none_back tl4.sm hD3, ?_, fun q hq => ?_, tl4.sm.trans (Same.new hD3)⟩, ?_⟩⟩
          · rw [upd_same, List.map_append]
          · rcases List.mem_append.mp hq with z | z
            · exact Same.new hD3 _ _ (tl4.st q z)
            · exact Same.new hD3 _ _ (tm.st q z)
          · rw [List.map_append, hg, hm, List.range_succ, List.flatMap_append]
            simp
      · rintro σ H2 ⟨D', x4, x5, x6, gs, rfl, tl, hg⟩
        refine ⟨_, rfl, hQ D' gs H2 tl.sm tl.nw tl.ls tl.st ?_⟩
        rw [hg, hN]
        rfl
end
end Hd
set_option maxHeartbeats 8000000
/-! The law of the hardest heaps: its walk. -/
namespace Hd
open PySem PySem.Spec PyProof.Rows L2 StX
theorem dp_rows {K : PySem.W.Frag} {H : Hp} : ∀ {fs : List Hrow}, (∀ p ∈ fs, H p.1 = some (.tup (p.2.map V.int))) → DpAll K H (fs.map fun p => V.ref p.1) ((fs.map (·.2)).map dI)
  | [], _ => .nil
  | p :: fs, h => .cons (dp_I (SqT.of (h p List.mem_cons_self))) (dp_rows fun q hq => h q (List.mem_cons_of_mem _ hq))
theorem hs_ok (xs : List Stn) : SeqAt.shaped (.list (xs.map dI)) = true := shaped_mk (by have := lay_all dI dI_lay xs; simp [PyData.canLay0, this]) (by have := deep_all dI 1 dI_deep xs; simp [PyData.depth]; omega)
theorem any_dI (xs : List Stn) (y : Stn) : ((xs.map dI).any fun z => PyData.eqv z (dI y)) = decide (y ∈ xs) := by
  rw [List.any_map, Bool.eq_iff_iff, List.any_eq_true, decide_eq_true_eq]
  constructor
  · rintro ⟨x, hx, e⟩
    have e : PyData.eqv (dI x) (dI y) = true := e
    rw [dI_eqv, decide_eq_true_eq] at e
    exact e ▸ hx
  · exact fun h => ⟨y, h, by show PyData.eqv (dI y) (dI y) = true; rw [dI_eqv]; simp⟩
theorem eqv_nil (xs : List Stn) : PyData.eqv (.list (xs.map dI)) (.list []) = decide (xs = []) := by
  simp only [PyData.eqv]
  cases xs with
  | nil => simp [PyData.eqvAll]
  | cons a r => simp [PyData.eqvAll]
/-- the two lists that the walk fills -/
structure WAt (H0 H : Hp) (SD LD : Addr) (s : WS) (sr lr : List Hrow) : Prop where
  es : H SD = some (.lst (sr.map fun q => V.ref q.1))
  el : H LD = some (.lst (lr.map fun q => V.ref q.1))
  ss : ∀ q ∈ sr, H q.1 = some (.tup (q.2.map V.int))
  sl : ∀ q ∈ lr, H q.1 = some (.tup (q.2.map V.int))
  ms : sr.map (·.2) = s.sn
  ml : lr.map (·.2) = s.lr
  ne : SD ≠ LD
  kp : ∀ b o, b ≠ SD → b ≠ LD → H0 b = some o → H b = some o
theorem WAt.mono {H0 H H' : Hp} {SD LD : Addr} {s : WS} {sr lr : List Hrow} (W : WAt H0 H SD LD s sr lr) (n : Same H H') : WAt H0 H' SD LD s sr lr := ⟨n _ _ W.es, n _ _ W.el, fun q hq => n _ _ (W.ss q hq), fun q hq => n _ _ (W.sl q hq), W.ms, W.ml, W.ne, fun b o h1 h2 e => n _ _ (W.kp b o h1 h2 e)⟩
def spWalk (K : PySem.W.Frag) : Sp := fun vs H Q _ => ∃ (t : Addr) (m : Nat) (T : Int) (h : Stn), vs = [.ref t] ∧ H t = some (.tup (h.map V.int)) ∧ 3 ≤ m ∧ m ≤ 4 ∧ (m : Int) ≤ T ∧ T ≤ 40 ∧ h ∈ ascF m T 1 ∧
  ∀ (p : Addr) (b : Bool) (H' : Hp), Same H H' → H p = none → (b = true ↔ Lead nxI (ascF m T 1) h h) → H' p = some (.lst [.int (fwU h : Int), .bl b]) → Q (.ref p) H'
section
variable {P : Program} {w : World} {K : PySem.W.Frag} {mg : Str → Option Value} {base : Heap}
abbrev s_l_walk : Stmt := top 46
theorem sc_l_walk : FnScope ["_law_heaps_here", "_law_layer", "_law_seen", "_law_many", "_law_least", "_law_back", "_law_later", "_law_here", "_law_new"] ["_law_heaps_here"] (defScope s_l_walk) := ⟨rfl, rfl, rfl, by decide +kernel, rfl, by decide +kernel, by decide +kernel⟩
theorem ok_l_walk {f : Addr} {fd : FuncData} (F : Fun K "_law_walk" "_law_walk" s_l_walk f fd) (C_l_next_heaps : Cal P w K mg base CX0 2 "_law_next_heaps" ["_law_heaps_here"] (spNxt K)) : FnOk P w K mg base CX0 3 f fd ["_law_heaps_here"] (spWalk K) := by
  refine F.ok sc_l_walk (fun vs H Q E h => ?_) (fun cdv A outer s H vs Q E hr h => ?_)
  · obtain ⟨t, m, T, h, rfl, _⟩ := h
    rfl
  · obtain ⟨t, m, T, h, rfl, hT, hm3, hm4, hmT, hT40, hR, k⟩ := h
    have hu65 := units65 hr
    refine ⟨_, (pss_cons (ps_asg (pe_tup (pa_cons (pe_lst (pa_cons (pv 0) pa_nil)) (pa_cons (pe_lst pa_nil) (pa_cons pe_int (pa_cons pe_non (pa_cons pe_bl pa_nil)))))) (pg_tup rfl (pgs_cons (pg_name (i := 1) sc_l_walk.nd rfl (Or.inl rfl)) (pgs_cons (pg_name (i := 2) sc_l_walk.nd rfl (Or.inl rfl)) (pgs_cons (pg_name (i := 3) sc_l_walk.nd rfl (Or.inl rfl)) (pgs_cons (pg_name (i := 4) sc_l_walk.nd rfl (Or.inl rfl)) (pgs_cons (pg_name (i := 5) sc_l_walk.nd rfl (Or.inl rfl)) pgs_nil)))))))
      (pss_cons (ps_while PassesOwn.never (pt_cmpR (op_neD hr.units) (pv 1) (pe_lst pa_nil) (nomark _)) (pss_cons (ps_par (i := 6) (j := 3) (by rfl) sc_l_walk.nd rfl rfl (by decide) rfl rfl (pa_cons (pe_lst pa_nil) (pa_cons (pe_op op_add (pv 3) pe_int) pa_nil)) (by rfl))
      (pss_cons (ps_for PassesOwn.never rfl (pi_list (pv 1)) (pg_name (i := 7) sc_l_walk.nd rfl (Or.inl rfl))
      (pss_one (ps_for PassesOwn.never rfl (pi_list (pe_cal C_l_next_heaps hr rfl pass0 (pa_cons (pv 7) pa_nil))) (pg_name (i := 8) sc_l_walk.nd rfl (Or.inl rfl))
      (pss_cutM (ps_set (i := 5) sc_l_walk.nd rfl (Or.inl rfl) (pe_or (pv 5) (pe_one (pe_cmpR (op_eqD hr.units) (pv 8) (pv 0) (nomark _)))))
      (pss_cutM (ps_if (PW.pt (pw_and (pt_cmpR op_eq (pe_ix ix_tup (pv 8) pe_int (fun _ _ => rfl)) pe_int (nomark _)) (pw_and1 (pt_cmpR op_isN (pv 4) pe_non (nomark _))))) (pss_one (ps_set (i := 4) sc_l_walk.nd rfl (Or.inl rfl) (pv 3))) pss_nil)
      (pss_one (ps_if (PW.pt (pw_and (pt_cmpR op_gt (pe_ix ix_tup (pv 8) pe_int (fun _ _ => rfl)) pe_int (nomark _)) (pw_and1 (pt_cmpR (op_notInD hu65) (pv 8) (pv 2) (by rfl))))) (pss_cons (ps_expr (pe_bm PySem.F.plainAttrs_list PySem.F.slot_list_append PySem.F.type_list_append mt_append (pv 2) (pa_cons (pv 8) pa_nil)))
      (pss_one (ps_expr (pe_bm PySem.F.plainAttrs_list PySem.F.slot_list_append PySem.F.type_list_append mt_append (pv 6) (pa_cons (pv 8) pa_nil))))) pss_nil)))))))
      (pss_one (ps_set (i := 1) sc_l_walk.nd rfl (Or.inl rfl) (pv 6))))))
      (pss_one (ps_ret (pe_lst (pa_cons (pv 4) (pa_cons (pv 5) pa_nil))))))), ?_⟩
    obtain ⟨A, hsr⟩ := asc_R (m := m) (t := T) (by omega) hmT
    have hs := hsr h hR
    have hbx := ascF_bx (m := m) (t := T) (by omega) hmT
    have hRl : (ascF m T 1).length ≤ 2825761 := by
      have h1 := ascF_len m T 1 hT40 (by decide)
      have h2 : 41 ^ m ≤ 41 ^ 4 := Nat.pow_le_pow_right (by decide) hm4
      have h3 : 41 ^ 4 = 2825761 := by decide
      omega
    obtain ⟨R, hRR⟩ : ∃ R, R = ascF m T 1 := ⟨_, rfl⟩
    rw [← hRR] at A hsr hbx hRl hR k
    refine ⟨_, rfl, by show 1 ≤ sizeLine; decide, fun L0 hL0 => ?_⟩
    have s1 : Same H (upd H L0 (.lst [.ref t])) := Same.new hL0
    have e1 : (upd H L0 (.lst [.ref t])) L0 = some (.lst [.ref t]) := upd_same
    generalize upd H L0 (.lst [.ref t]) = H1 at s1 e1 ⊢
    refine ⟨by show 0 ≤ sizeLine; decide, fun SD hSD => ?_⟩
    have s2 : Same H1 (upd H1 SD (.lst [])) := Same.new hSD
    have e2 : (upd H1 SD (.lst [])) SD = some (.lst []) := upd_same
    generalize upd H1 SD (.lst []) = H2 at s2 e2 ⊢
    refine ⟨by show 5 ≤ sizeLine; decide, fun TP hTP => ?_⟩
    have s3 : Same H2 (upd H2 TP (.tup [.ref L0, .ref SD, .int 0, .non, .bl false])) := Same.new hTP
    have e3 : (upd H2 TP (.tup [.ref L0, .ref SD, .int 0, .non, .bl false])) TP = some (.tup [.ref L0, .ref SD, .int 0, .non, .bl false]) := upd_same
    generalize upd H2 TP (.tup [.ref L0, .ref SD, .int 0, .non, .bl false]) = H3 at s3 e3 ⊢
    refine ⟨TP, _, rfl, SqT.of e3, rfl, _, _, rfl, _, _, rfl, _, _, rfl, _, _, rfl, _, _, rfl, rfl, ?_⟩
    have nSD : H SD = none := none_back s1 hSD
    have nLS : L0 ≠ SD := ne_of_none e1 hSD
    obtain ⟨Iv, hIv⟩ : ∃ Iv : Nat → L2.St → Hp → Prop, Iv = fun (mm : Nat) σ H1 => ∃ (ly : Addr) (lr sr : List Hrow) (kk : Nat) (dn : List Stn) (lt : Option Nat) (bk : Bool) (x6 x7 x8 : Option V), σ = [some (.ref t), some (.ref ly), some (.ref SD), some (.int (kk : Int)), some (oNat lt), some (.bl bk), x6, x7, x8] ∧
      H1 ly = some (.lst (lr.map fun q => V.ref q.1)) ∧ (∀ q ∈ lr, H1 q.1 = some (.tup (q.2.map V.int))) ∧ H1 SD = some (.lst (sr.map fun q => V.ref q.1)) ∧ (∀ q ∈ sr, H1 q.1 = some (.tup (q.2.map V.int))) ∧ ly ≠ SD ∧ Same H H1 ∧ Wi R h kk dn (lr.map (·.2)) (sr.map (·.2)) lt bk ∧
      mm = 2 * (R.length - sr.length) + (if lr = [] then 0 else 1) := ⟨_, rfl⟩
    have i0 : Iv (2 * R.length + 1) [some (.ref t), some (.ref L0), some (.ref SD), some (.int 0), some .non, some (.bl false), none, none, none] H3 := by
      rw [hIv]
      refine ⟨L0, [(t, h)], [], 0, [], none, false, none, none, none, rfl, s3 _ _ (s2 _ _ e1), fun q hq => ?_, s3 _ _ e2, (fun q hq => nomatch hq), nLS, (s1.trans s2).trans s3, Wi.start, rfl⟩
      rw [List.mem_singleton.mp hq]
      exact s3 _ _ (s2 _ _ (s1 _ _ hT))
    refine ⟨Iv, ⟨_, i0⟩, ?_⟩
    rintro mm σ G0 hI
    rw [hIv] at hI
    obtain ⟨ly, lr, sr, kk, dn, lt, bk, x6, x7, x8, rfl, ely, tly, esd, tsd, nls, sHG, W, rfl⟩ := hI
    refine ⟨_, rfl, (by show 0 ≤ sizeLine; decide), fun e he => ⟨.list ((lr.map (·.2)).map dI), .list [], .lst (SqL.of (Same.new he _ _ ely)) (dp_rows fun p hp => Same.new he _ _ (tly p hp)), .lst (SqL.of upd_same) .nil, hs_ok _, rfl, _, rfl, ?_⟩⟩
    have ely := Same.new (o := .lst []) he _ _ ely
    have tly := fun q hq => Same.new (o := .lst []) he _ _ (tly q hq)
    have esd := Same.new (o := .lst []) he _ _ esd
    have tsd := fun q hq => Same.new (o := .lst []) he _ _ (tsd q hq)
    have sHG := sHG.trans (Same.new (o := .lst []) he)
    generalize upd G0 e (.lst []) = G1 at ely tly esd tsd sHG ⊢
    rw [eqv_nil]
    by_cases hz : lr.map (·.2) = []
    · -- the end
      rw [decide_eq_true hz]
      refine iteF ⟨_, rfl, _, rfl, by show 2 ≤ sizeLine; decide, fun p hp => ?_⟩
      rw [hz] at W
      have hT0 : 0 ≤ T := by omega
      obtain ⟨S, hS⟩ := Int.eq_ofNat_of_zero_le hT0
      obtain ⟨d1, d2⟩ := Wi.done A hR hs (L := m) (S := S) (by have := (hbx h hR).1; rw [hS] at this; exact this) hm3 W
      have e4 : (upd G1 p (.lst [oNat lt, .bl bk])) p = some (.lst [.int (fwU h : Int), .bl bk]) := by rw [upd_same, d1]; rfl
      exact k p bk _ (sHG.trans (Same.new hp)) (none_back sHG hp) d2 e4
    · rw [decide_eq_false hz]
      refine iteT ⟨fun σ' H' => ∃ m', m' < 2 * (R.length - sr.length) + (if lr = [] then 0 else 1) ∧ Iv m' σ' H', fun σ' H' z => z, ?_⟩
      refine ⟨by show 0 ≤ sizeLine; decide, fun LD hLD => ⟨_, rfl, _, _, rfl, rfl, _, _, rfl, ?_⟩⟩
      have nLD : H LD = none := none_back sHG hLD
      have nld1 : ly ≠ LD := ne_of_none ely hLD
      have nld2 : SD ≠ LD := ne_of_none esd hLD
      have s4 : Same G1 (upd G1 LD (.lst [])) := Same.new hLD
      have e4 : (upd G1 LD (.lst [])) LD = some (.lst []) := upd_same
      have ely := s4 _ _ ely
      have tly := fun q hq => s4 _ _ (tly q hq)
      have esd := s4 _ _ esd
      have tsd := fun q hq => s4 _ _ (tsd q hq)
      have sHG := sHG.trans s4
      generalize upd G1 LD (.lst []) = G2 at e4 ely tly esd tsd sHG ⊢
      obtain ⟨lyS, hlyS⟩ : ∃ lyS, lyS = lr.map (·.2) := ⟨_, rfl⟩
      obtain ⟨sn, hsn⟩ : ∃ sn, sn = sr.map (·.2) := ⟨_, rfl⟩
      rw [← hlyS, ← hsn] at W
      obtain ⟨st, hst⟩ : ∃ st : List Stn → WS, st = fun P => P.foldl (one h (kk + 1)) ⟨sn, [], lt, bk⟩ := ⟨_, rfl⟩
      have est : ∀ P, st P = P.foldl (one h (kk + 1)) ⟨sn, [], lt, bk⟩ := fun P => by rw [hst]
      have lyR := W.inR hR
      have st1 : ∀ P y, st (P ++ [y]) = one h (kk + 1) (st P) y := fun P y => by rw [hst]; show (P ++ [y]).foldl _ _ = _; rw [List.foldl_append]; rfl
      have few : ∀ P, (∀ x ∈ P, ∃ y ∈ lyS, x ∈ nxI y) → (st P).sn = sn ++ (st P).lr ∧ (st P).sn.length ≤ 2825761 ∧ (st P).sn.length ≤ R.length := fun P hP => by
        obtain ⟨f1, f2, f3, _⟩ := one_fold (h := h) (k := kk + 1) (s0 := ⟨sn, [], lt, bk⟩) rfl P
        rw [est]
        have : (P.foldl (one h (kk + 1)) ⟨sn, [], lt, bk⟩).sn.length ≤ R.length := nodup_le (f3 W.nd) fun x hx => by
          rw [f1] at hx
          rcases List.mem_append.mp hx with z | z
          · exact (W.snL x z).mem
          · obtain ⟨a1, a2, _⟩ := (f2 x).mp z
            obtain ⟨y, hy, hxy⟩ := hP x a1
            exact A.cl y (lyR y hy) x hxy ((A.hd y (lyR y hy) x hxy).2.mp a2)
        exact ⟨f1, by omega, this⟩
      have w0 : WAt G2 G2 SD LD (st []) sr [] := by
        rw [hst]
        exact ⟨esd, e4, tsd, (fun q hq => nomatch hq), hsn.symm, rfl, nld2, fun b o _ _ e => e⟩
      refine ⟨_, rfl, ly, rfl, ⟨_, SqL.of ely⟩, for_list (K := K) (a := ly) (xs := lr.map fun q => V.ref q.1) (fun i σ G => ∃ (x7 x8 : Option V) (sr' lr' : List Hrow), σ = [some (.ref t), some (.ref ly), some (.ref SD), some (.int ((kk + 1 : Nat) : Int)), some (oNat (st ((lyS.take i).flatMap nxI)).lt), some (.bl (st ((lyS.take i).flatMap nxI)).bk), some (.ref LD), x7, x8] ∧ WAt G2 G SD LD (st ((lyS.take i).flatMap nxI)) sr' lr') ?_ ?_ ?_ ?_⟩
      · refine ⟨x7, x8, sr, [], ?_, by simpa using w0⟩
        have e : st ((lyS.take 0).flatMap nxI) = ⟨sn, [], lt, bk⟩ := by rw [hst]; rfl
        rw [e]
        rfl
      · rintro i σ G _ ⟨_, _, _, _, _, w⟩
        exact SqL.of (w.kp _ _ nls nld1 ely)
      · rintro i x σ G3 hx ⟨x7, x8, sr', lr', rfl, w⟩
        rw [List.getElem?_map] at hx
        obtain ⟨q, hq, rfl⟩ := Option.map_eq_some_iff.mp hx
        have hqm := List.mem_of_getElem? hq
        have hq2 := tly q hqm
        have hqS : lyS[i]? = some q.2 := by rw [hlyS, List.getElem?_map, hq]; rfl
        have hqly : q.2 ∈ lyS := List.mem_of_getElem? hqS
        have hqR := lyR _ hqly
        have hq3 := w.kp _ _ (ne_of hq2 esd (by intro z; cases z)) (ne_of hq2 e4 (by intro z; cases z)) hq2
        have hql : q.2.length = m := (hbx _ hqR).1.1
        refine ⟨_, rfl, q.1, q.2, rfl, hq3, by omega, fun ln nh G4 s5 hln eln tln hnx => ⟨ln, rfl, ⟨_, SqL.of eln⟩, ?_⟩⟩
        have w4 := w.mono s5
        have nl1 : ln ≠ SD := (ne_of_none w.es hln).symm
        have nl2 : ln ≠ LD := (ne_of_none w.el hln).symm
        have hT4 := s5 _ _ (w.kp t _ (fun z => by rw [z, nSD] at hT; cases hT) (fun z => by rw [z, nLD] at hT; cases hT) (sHG _ _ hT))
        have pre : ∀ j, ∀ x ∈ (lyS.take i).flatMap nxI ++ (nxI q.2).take j, ∃ y ∈ lyS, x ∈ nxI y := fun j x hx => by
          rcases List.mem_append.mp hx with z | z
          · obtain ⟨y, hy, e⟩ := List.mem_flatMap.mp z
            exact ⟨y, List.mem_of_mem_take hy, e⟩
          · exact ⟨q.2, hqly, List.mem_of_mem_take z⟩
        refine for_list (K := K) (a := ln) (xs := nh.map fun q => V.ref q.1) (fun j σ G => ∃ (x8 : Option V) (sr' lr' : List Hrow), σ = [some (.ref t), some (.ref ly), some (.ref SD), some (.int ((kk + 1 : Nat) : Int)), some (oNat (st ((lyS.take i).flatMap nxI ++ (nxI q.2).take j)).lt), some (.bl (st ((lyS.take i).flatMap nxI ++ (nxI q.2).take j)).bk), some (.ref LD), some (.ref q.1), x8] ∧ WAt G4 G SD LD (st ((lyS.take i).flatMap nxI ++ (nxI q.2).take j)) sr' lr') ?_ ?_ ?_ ?_
        · refine ⟨x8, sr', lr', ?_, ?_⟩
          · rw [List.take_zero, List.append_nil]
            rfl
          · rw [List.take_zero, List.append_nil]
            exact ⟨w4.es, w4.el, w4.ss, w4.sl, w4.ms, w4.ml, w4.ne, fun b o _ _ e => e⟩
        · rintro j σ G _ ⟨_, _, _, _, w⟩
          exact SqL.of (w.kp _ _ nl1 nl2 eln)
        · rintro j x σ G5 hx ⟨x8, sr5, lr5, rfl, w5⟩
          rw [List.getElem?_map] at hx
          obtain ⟨r, hr, rfl⟩ := Option.map_eq_some_iff.mp hx
          have hr4 := tln r (List.mem_of_getElem? hr)
          have hry : (nxI q.2)[j]? = some r.2 := by rw [← hnx, List.getElem?_map, hr]; rfl
          have hrm := List.mem_of_getElem? hry
          have hr5 := w5.kp _ _ (ne_of hr4 w4.es (by intro z; cases z)) (ne_of hr4 w4.el (by intro z; cases z)) hr4
          have hT5 := w5.kp _ _ (ne_of hT4 w4.es (by intro z; cases z)) (ne_of hT4 w4.el (by intro z; cases z)) hT4
          have hrl : 0 < r.2.length := by
            obtain ⟨u, hu, e⟩ := List.mem_map.mp hrm
            rw [← e, (srtI_perm u).length_eq]
            obtain ⟨pp, _, rfl⟩ := List.mem_map.mp hu
            rw [len_mv, hql]
            omega
          have eP : (lyS.take i).flatMap nxI ++ (nxI q.2).take (j + 1) = ((lyS.take i).flatMap nxI ++ (nxI q.2).take j) ++ [r.2] := by
            rw [List.take_add_one, hry, List.append_assoc]
            rfl
          have hfew := few _ (pre j)
          rw [eP]
          generalize (lyS.take i).flatMap nxI ++ (nxI q.2).take j = P at w5 hfew ⊢
          rw [st1]
          generalize st P = s at w5 hfew ⊢
          obtain ⟨hfe, hfl, _⟩ := hfew
          have hll : s.lr.length ≤ s.sn.length := by
            rw [hfe, List.length_append]
            omega
          have l1 := congrArg List.length w5.ms
          have l2 := congrArg List.length w5.ml
          rw [List.length_map] at l1 l2
          -- back
          refine ⟨fun σ' G => σ' = [some (.ref t), some (.ref ly), some (.ref SD), some (.int ((kk + 1 : Nat) : Int)), some (oNat s.lt), some (.bl (one h (kk + 1) s r.2).bk), some (.ref LD), some (.ref q.1), some (.ref r.1)] ∧ G5 = G, ?_, ?_⟩
          · refine ⟨_, rfl, s.bk, rfl, ?_⟩
            have eb : (one h (kk + 1) s r.2).bk = (s.bk || decide (r.2 = h)) := rfl
            rw [eb]
            cases hb : s.bk with
            | true => exact iteT ⟨rfl, rfl⟩
            | false =>
              refine iteF ⟨_, rfl, _, rfl, dI r.2, dI h, dp_I (SqT.of hr5), dp_I (SqT.of hT5), dI_ok _, dI_ok _, ?_⟩
              rw [dI_eqv]
              exact ⟨rfl, rfl⟩
          rintro _ _ ⟨rfl, rfl⟩
          -- least
          refine ⟨fun σ' G => σ' = [some (.ref t), some (.ref ly), some (.ref SD), some (.int ((kk + 1 : Nat) : Int)), some (oNat (one h (kk + 1) s r.2).lt), some (.bl (one h (kk + 1) s r.2).bk), some (.ref LD), some (.ref q.1), some (.ref r.1)] ∧ G5 = G, ?_, ?_⟩
          · refine ⟨_, rfl, r.1, _, 0, _, rfl, rfl, SqT.of hr5, at_of rfl (getD_at hrl), rfl, _, rfl, ?_⟩
            have el : (one h (kk + 1) s r.2).lt = if r.2.getD 0 0 = 0 ∧ s.lt = none then some (kk + 1) else s.lt := rfl
            rw [dec_int]
            by_cases c1 : r.2.getD 0 0 = 0
            · rw [decide_eq_true c1]
              refine iteT ⟨_, rfl, rfl, _, rfl, ?_⟩
              cases hl : s.lt with
              | none =>
                have e9 : (one h (kk + 1) s r.2).lt = some (kk + 1) := by rw [el, if_pos ⟨c1, hl⟩]
                rw [decide_eq_true (show oNat none = V.non from rfl)]
                refine iteT ⟨_, rfl, ?_, rfl⟩
                rw [e9]
                rfl
              | some l =>
                have e9 : (one h (kk + 1) s r.2).lt = some l := by
                  rw [el, if_neg (fun z => by have z2 := z.2; rw [hl] at z2; cases z2), hl]
                rw [decide_eq_false (show ¬ oNat (some l) = V.non from fun z => nomatch z)]
                refine iteF ⟨?_, rfl⟩
                rw [e9]
            · have e9 : (one h (kk + 1) s r.2).lt = s.lt := by rw [el, if_neg fun z => c1 z.1]
              rw [decide_eq_false c1]
              refine iteF (iteF ⟨?_, rfl⟩)
              rw [e9]
          rintro _ _ ⟨rfl, rfl⟩
          -- seen
          refine ⟨_, rfl, r.1, _, 0, _, rfl, rfl, SqT.of hr5, at_of rfl (getD_at hrl), _, _, rfl, rfl, _, rfl, ?_⟩
          have e7 : (one h (kk + 1) s r.2).sn = if 0 < r.2.getD 0 0 ∧ r.2 ∉ s.sn then s.sn ++ [r.2] else s.sn := rfl
          have e8 : (one h (kk + 1) s r.2).lr = if 0 < r.2.getD 0 0 ∧ r.2 ∉ s.sn then s.lr ++ [r.2] else s.lr := rfl
          by_cases c1 : 0 < r.2.getD 0 0
          · rw [decide_eq_true c1]
            refine iteT ⟨_, rfl, _, rfl, dI r.2, (sr5.map (·.2)).map dI, dp_I (SqT.of hr5), .lst (SqL.of w5.es) (dp_rows w5.ss), dI_ok _, hs_ok _, _, rfl, ?_⟩
            rw [any_dI, w5.ms]
            by_cases c2 : r.2 ∈ s.sn
            · rw [decide_eq_true c2]
              refine iteF ⟨_, sr5, lr5, rfl, ⟨w5.es, w5.el, w5.ss, w5.sl, ?_, ?_, w5.ne, w5.kp⟩⟩
              · rw [e7, if_neg fun z => z.2 c2]; exact w5.ms
              · rw [e8, if_neg fun z => z.2 c2]; exact w5.ml
            · rw [decide_eq_false c2]
              refine iteT ?_
              refine ⟨_, rfl, .inl ⟨rfl, _, SqL.of w5.es⟩, _, rfl, SD, _, _, rfl, rfl, w5.es, by rw [List.length_map, sizeLine_eq]; omega, ?_⟩
              have el6 : (upd G5 SD (.lst (sr5.map (fun q => V.ref q.1) ++ [.ref r.1]))) LD = some (.lst (lr5.map fun q => V.ref q.1)) := by rw [upd_ne (Ne.symm w5.ne)]; exact w5.el
              refine ⟨_, rfl, .inl ⟨rfl, _, SqL.of el6⟩, _, rfl, LD, _, _, rfl, rfl, el6, by rw [List.length_map, sizeLine_eq]; omega, ?_⟩
              have tk : ∀ {b xs}, G5 b = some (.tup xs) → (upd (upd G5 SD (.lst (sr5.map (fun q => V.ref q.1) ++ [.ref r.1]))) LD (.lst (lr5.map (fun q => V.ref q.1) ++ [.ref r.1]))) b = some (.tup xs) := fun {b xs} e => by
                rw [upd_ne (ne_of e w5.el (by intro z; cases z)), upd_ne (ne_of e w5.es (by intro z; cases z))]
                exact e
              refine ⟨_, sr5 ++ [(r.1, r.2)], lr5 ++ [(r.1, r.2)], rfl, ⟨?_, ?_, fun z hz => ?_, fun z hz => ?_, ?_, ?_, w5.ne, fun b o h1 h2 e => ?_⟩⟩
              · rw [upd_ne w5.ne, upd_same, List.map_append]
                rfl
              · rw [upd_same, List.map_append]
                rfl
              · rcases List.mem_append.mp hz with q | q
                · exact tk (w5.ss z q)
                · rw [List.mem_singleton.mp q]
                  exact tk hr5
              · rcases List.mem_append.mp hz with q | q
                · exact tk (w5.sl z q)
                · rw [List.mem_singleton.mp q]
                  exact tk hr5
              · rw [e7, if_pos ⟨c1, c2⟩, List.map_append, w5.ms]
                rfl
              · rw [e8, if_pos ⟨c1, c2⟩, List.map_append, w5.ml]
                rfl
              · rw [upd_ne h2, upd_ne h1]
                exact w5.kp b o h1 h2 e
          · rw [decide_eq_false c1]
            refine iteF (iteF ⟨_, sr5, lr5, rfl, ⟨w5.es, w5.el, w5.ss, w5.sl, ?_, ?_, w5.ne, w5.kp⟩⟩)
            · rw [e7, if_neg fun z => c1 z.1]; exact w5.ms
            · rw [e8, if_neg fun z => c1 z.1]; exact w5.ml
        · rintro σ G5 ⟨x8, sr5, lr5, rfl, w5⟩
          have e5 : (nxI q.2).take (nh.map fun q => V.ref q.1).length = nxI q.2 := List.take_of_length_le (by rw [← hnx, List.length_map, List.length_map]; exact Nat.le_refl _)
          have e6 : (lyS.take (i + 1)).flatMap nxI = (lyS.take i).flatMap nxI ++ nxI q.2 := by
            rw [List.take_add_one, hqS, List.flatMap_append]
            simp
          rw [e5, ← e6] at w5
          refine ⟨some (.ref q.1), x8, sr5, lr5, ?_, w5.es, w5.el, w5.ss, w5.sl, w5.ms, w5.ml, w5.ne, fun b o h1 h2 e => w5.kp b o h1 h2 (s5 _ _ (w.kp b o h1 h2 e))⟩
          rw [e5, ← e6]
      · rintro σ G3 ⟨x7, x8, sr', lr', rfl, w⟩
        have e5 : lyS.take (lr.map fun q => V.ref q.1).length = lyS := List.take_of_length_le (by rw [hlyS, List.length_map, List.length_map]; exact Nat.le_refl _)
        have hfw := few (lyS.flatMap nxI) fun x hx => by
          obtain ⟨y, hy, e⟩ := List.mem_flatMap.mp hx
          exact ⟨y, hy, e⟩
        have hnext := Wi.next A hR W
        rw [lay_flat] at hnext
        rw [e5] at w
        rw [e5]
        rw [← est (lyS.flatMap nxI)] at hnext
        generalize st (lyS.flatMap nxI) = s at w hfw hnext ⊢
        have l1 := congrArg List.length w.ms
        have l2 := congrArg List.length w.ml
        have l3 := congrArg List.length hfw.1
        have l4 := congrArg List.length hsn
        rw [List.length_map] at l1 l2 l4
        rw [List.length_append] at l3
        refine ⟨_, rfl, 2 * (R.length - sr'.length) + (if lr' = [] then 0 else 1), ?_, ?_⟩
        · have hlr : lr ≠ [] := fun z => hz (by rw [z]; rfl)
          rw [if_neg hlr]
          by_cases c : lr' = []
          · rw [if_pos c]
            rw [c] at l2
            simp at l2
            omega
          · have : 0 < lr'.length := List.length_pos_iff.mpr c
            rw [if_neg c]
            omega
        · rw [hIv]
          refine ⟨LD, lr', sr', kk + 1, dn ++ lyS, s.lt, s.bk, _, _, _, rfl, w.el, w.sl, w.es, w.ss, (Ne.symm w.ne), fun b o e => ?_, ?_, rfl⟩
          · exact w.kp b o (fun z => by rw [z, nSD] at e; cases e) (fun z => by rw [z, nLD] at e; cases e) (sHG _ _ e)
          · rw [w.ml, w.ms]
            exact hnext.1
end
end Hd
set_option maxHeartbeats 8000000
/-! The law of the hardest heaps. -/
namespace Hd
open PySem PySem.Spec PyProof.Rows L2 StX
theorem ix_tupK {X : Cx} {K : PySem.W.Frag} (hK : X.K = K) : IxR X (rIxT K) := hK ▸ ix_tup
theorem ix_listK {X : Cx} {K : PySem.W.Frag} (hK : X.K = K) : IxR X (rIxL K) := hK ▸ ix_list
/-- a row of the law's table: the heaps, and what the walk tells -/
structure Rw where
  tp : Addr
  qa : Addr
  pa : Addr
  x : Stn
  b : Bool
structure RwAt (R : List Stn) (H : Hp) (w : Rw) : Prop where
  t : H w.tp = some (.tup [.ref w.qa, .ref w.pa])
  q : H w.qa = some (.tup (w.x.map V.int))
  p : H w.pa = some (.lst [.int (fwU w.x : Int), .bl w.b])
  l : w.b = true ↔ Lead nxI R w.x w.x
theorem RwAt.nx {R : List Stn} {H H' : Hp} {w : Rw} (n : NX H H') (h : RwAt R H w) : RwAt R H' w := ⟨n _ _ (by intro φ z; cases z) h.t, n _ _ (by intro φ z; cases z) h.q, n _ _ (by intro φ z; cases z) h.p, h.l⟩
theorem RwAt.at_ {R : List Stn} {H : Hp} {D : Addr} {xs : List V} {o : HO} {w : Rw} (hd : H D = some (.lst xs)) (n : w.pa ≠ D) (h : RwAt R H w) : RwAt R (upd H D o) w := ⟨by rw [upd_ne (ne_of h.t hd (by intro z; cases z))]; exact h.t, by rw [upd_ne (ne_of h.q hd (by intro z; cases z))]; exact h.q, by rw [upd_ne n]; exact h.p, h.l⟩
def dG (g : Int) (xs : List Stn) : PyData := .tuple [.int g, .list (xs.map dI)]
theorem rows_self (xs : List Stn) : PyData.eqvAll (xs.map dI) (xs.map dI) = true := all_self dI (fun x => by rw [dI_eqv, decide_eq_true rfl]) xs
theorem dG_ok (g : Int) (xs : List Stn) : SeqAt.shaped (dG g xs) = true := shaped_mk (by have := lay_all dI dI_lay xs; simp [dG, PyData.canLay0, PyData.canLayAll0, this]) (by have := deep_all dI 1 dI_deep xs; simp [dG, PyData.depth, PyData.depthAll]; omega)
theorem dG_self (g : Int) (xs : List Stn) : PyData.eqv (dG g xs) (dG g xs) = true := by simp [dG, PyData.eqv, PyData.eqvAll, rows_self]
theorem dL_self (xs : List Stn) : PyData.eqv (.list (xs.map dI)) (.list (xs.map dI)) = true := by simp only [PyData.eqv, rows_self]
def spLaw (K : PySem.W.Frag) : Sp := fun vs H Q _ => ∃ (a : Addr) (ns : List Int), vs = [.ref a] ∧ SqL K H a (ns.map V.int) ∧ ns.length ≤ 63 ∧ ∀ H', Q (.bl true) H'
section
variable {P : Program} {w : World} {K : PySem.W.Frag} {mg : Str → Option Value} {base : Heap}
abbrev s_law : Stmt := top 47
theorem sc_law : FnScope ["_law_script", "_law_h", "_law_many", "_law_rare", "_law_total", "_law_rows", "_law_greatest", "_law_due", "_law_heaps_here", "_law_row"] ["_law_script"] (defScope s_law) := ⟨rfl, rfl, rfl, by decide +kernel, rfl, by decide +kernel, by decide +kernel⟩
theorem ok_law {f : Addr} {fd : FuncData} (F : Fun K "law" "law" s_law f fd) (T : Tz mg) (C_l_mix : Cal P w K mg base CX0 1 "_law_mix" ["_law_script", "_law_seed"] (spMix K)) (C_l_next : Cal P w K mg base CX0 1 "_law_next" ["_law_h", "_law_bound"] spNext) (C_l_every : Cal P w K mg base CX0 5 "_law_every" ["_law_many", "_law_total", "_law_least"] (spEvery K 4)) (C_l_walk : Cal P w K mg base CX0 3 "_law_walk" ["_law_heaps_here"] (spWalk K))
    (C_hardest : Cal P w K mg base CX0 8 "hardest" ["many", "total"] spHardU) (C_returning : Cal P w K mg base CX0 6 "returning" ["many", "total"] spRetU) : FnOk P w K mg base CX0 9 f fd ["_law_script"] (spLaw K) := by
  refine F.ok sc_law (fun vs H Q E h => ?_) (fun cdv A outer s0 H vs Q E hr h => ?_)
  · obtain ⟨a, ns, rfl, _⟩ := h
    rfl
  · obtain ⟨a, ns, rfl, hS, hlen, k⟩ := h
    refine ⟨_, (pss_cons (ps_set (i := 1) sc_law.nd rfl (Or.inl rfl) (pe_cal C_l_mix hr rfl pass0 (pa_cons (pv 0) (pa_cons pe_int pa_nil))))
      (pss_cons (ps_set (i := 2) sc_law.nd rfl (Or.inl rfl) (pe_op op_add pe_int (pe_callTy call_int1 (by rfl) T.int (by decide +kernel) (pa_cons (pe_cmpR op_eq (pe_cal C_l_next hr rfl pass0 (pa_cons (pv 1) (pa_cons pe_int pa_nil))) pe_int (nomark _)) pa_nil))))
      (pss_cons (ps_set (i := 3) sc_law.nd rfl (Or.inl rfl) (pe_callTy call_int1 (by rfl) T.int (by decide +kernel) (pa_cons (pe_cmpR op_eq (pe_cal C_l_next hr rfl pass0 (pa_cons (pv 1) (pa_cons pe_int pa_nil))) pe_int (nomark _)) pa_nil)))
      (pss_cons (ps_set (i := 4) sc_law.nd rfl (Or.inl rfl) (pe_op op_add (pv 2) (pe_cal C_l_next hr rfl pass0 (pa_cons (pv 1) (pa_cons (pe_ix ix_list (pe_ix ix_list (pe_lst (pa_cons (pe_lst (pa_cons pe_int (pa_cons pe_int pa_nil))) (pa_cons (pe_lst (pa_cons pe_int (pa_cons pe_int pa_nil))) pa_nil))) (pe_op op_sub (pv 2) pe_int) (fun _ _ => rfl)) (pv 3) (fun _ _ => rfl)) pa_nil)))))
      (pss_cons (ps_setLc (i := 5) (own := [("_law_heaps_here", 8)]) (g := gName 8) (by rfl) sc_law.nd rfl rfl (sw_true rfl rfl rfl (by decide +kernel)) (pi_list (pe_cal C_l_every hr rfl pass0 (pa_cons (pv 2) (pa_cons (pv 4) (pa_cons pe_int pa_nil))))) (blkOk_by (own := [("_law_heaps_here", 8)]) (N := ["_law_script", "_law_h", "_law_many", "_law_rare", "_law_total", "_law_rows", "_law_greatest", "_law_due", "_law_heaps_here", "_law_row"]) (sc := defScope s_law) (by decide +kernel)) (fun _ _ _ _ _ => pg_name (i := 8) sc_law.nd rfl (Or.inl rfl)) (fun _ _ _ _ _ => pts_nil) (fun _ _ _ _ _ => (pe_tup (pa_cons (pv 8) (pa_cons (pe_cal C_l_walk hr rfl pass0 (pa_cons (pv 8) pa_nil)) pa_nil)))))
      (pss_cons (ps_set (i := 6) sc_law.nd rfl (Or.inr rfl) (pe_callB (cr_max rfl) (by rfl) T.max (by decide +kernel) (pa_cons (pe_lc (own := [("_law_row", 9)]) (g := gName 9) (by rfl) sc_law.nd (pi_list (pv 5)) (blkOk_by (own := [("_law_row", 9)]) (N := ["_law_script", "_law_h", "_law_many", "_law_rare", "_law_total", "_law_rows", "_law_greatest", "_law_due", "_law_heaps_here", "_law_row"]) (sc := defScope s_law) (by decide +kernel)) (fun _ _ _ _ _ => pg_name (i := 9) sc_law.nd rfl (Or.inl rfl)) (fun _ _ _ _ _ => pts_nil) (fun _ _ _ _ _ => (pe_ix (ix_listK (K := K) rfl) (pe_ix (ix_tupK (K := K) rfl) (pv 9) pe_int (fun _ _ => rfl)) pe_int (fun _ _ => rfl)))) pa_nil)))
      (pss_cons (ps_setLc (i := 7) (own := [("_law_row", 9)]) (g := gName 9) (by rfl) sc_law.nd rfl rfl (sw_true rfl rfl rfl (by decide +kernel)) (pi_list (pv 5)) (blkOk_by (own := [("_law_row", 9)]) (N := ["_law_script", "_law_h", "_law_many", "_law_rare", "_law_total", "_law_rows", "_law_greatest", "_law_due", "_law_heaps_here", "_law_row"]) (sc := defScope s_law) (by decide +kernel)) (fun _ _ _ _ _ => pg_name (i := 9) sc_law.nd rfl (Or.inl rfl)) (fun _ _ _ _ _ => pts_one (pt_cmpR op_eq (pe_ix (ix_listK (K := K) rfl) (pe_ix (ix_tupK (K := K) rfl) (pv 9) pe_int (fun _ _ => rfl)) pe_int (fun _ _ => rfl)) (pv 6) (nomark _))) (fun _ _ _ _ _ => (pe_ix (ix_tupK (K := K) rfl) (pv 9) pe_int (fun _ _ => rfl))))
      (pss_cons (ps_if (pt_cmpR (op_neD hr.units) (pe_cal C_hardest hr rfl pass0 (pa_cons (pv 2) (pa_cons (pv 4) pa_nil))) (pe_tup (pa_cons (pv 6) (pa_cons (pv 7) pa_nil))) (nomark _)) (pss_one (ps_ret pe_bl)) pss_nil)
      (pss_one (ps_ret (pe_cmpR (op_eqD hr.units) (pe_cal C_returning hr rfl pass0 (pa_cons (pv 2) (pa_cons (pv 4) pa_nil))) (pe_lc (own := [("_law_row", 9)]) (g := gName 9) (by rfl) sc_law.nd (pi_list (pv 5)) (blkOk_by (own := [("_law_row", 9)]) (N := ["_law_script", "_law_h", "_law_many", "_law_rare", "_law_total", "_law_rows", "_law_greatest", "_law_due", "_law_heaps_here", "_law_row"]) (sc := defScope s_law) (by decide +kernel)) (fun _ _ _ _ _ => pg_name (i := 9) sc_law.nd rfl (Or.inl rfl)) (fun _ _ _ _ _ => pts_one (pt_val (pe_ix (ix_listK (K := K) rfl) (pe_ix (ix_tupK (K := K) rfl) (pv 9) pe_int (fun _ _ => rfl)) pe_int (fun _ _ => rfl)))) (fun _ _ _ _ _ => (pe_ix (ix_tupK (K := K) rfl) (pv 9) pe_int (fun _ _ => rfl)))) (nomark _)))))))))))), ?_⟩
    refine ⟨_, rfl, a, ns, 15, rfl, hS, hlen, fun h c H1 nh nc s1 D1 => ?_⟩
    refine ⟨_, rfl, h, c, 4, rfl, D1, by decide, by decide, fun n1 H2 n10 n11 D2 k2 => ⟨rfl, .inr ⟨_, rfl, _, _, rfl, rfl, ?_⟩⟩⟩
    refine ⟨_, rfl, h, c, 9, rfl, D2, by decide, by decide, fun n2 H3 n20 n21 D3 k3 => ⟨rfl, .inr ⟨_, rfl, ?_⟩⟩⟩
    obtain ⟨b1, hb1⟩ : ∃ b, b = decide (V.int n1 = V.int 0) := ⟨_, rfl⟩
    obtain ⟨b2, hb2⟩ : ∃ b, b = decide (V.int n2 = V.int 0) := ⟨_, rfl⟩
    rw [← hb1, ← hb2]
    dsimp only
    obtain ⟨m, hm⟩ : ∃ m : Nat, m = if b1 = true then 4 else 3 := ⟨_, rfl⟩
    have em : (3 + (if b1 = true then 1 else 0) : Int) = (m : Int) := by rw [hm]; cases b1 <;> rfl
    rw [em]
    refine ⟨_, rfl, _, rfl, by show 2 ≤ sizeLine; decide, fun x1 hx1 => ?_⟩
    have D3 := D3.new (o := .lst [.int 22, .int 38]) hx1
    have e1 : (upd H3 x1 (.lst [.int 22, .int 38])) x1 = some (.lst [.int 22, .int 38]) := upd_same
    generalize upd H3 x1 (.lst [.int 22, .int 38]) = H4 at D3 e1 ⊢
    refine ⟨by show 2 ≤ sizeLine; decide, fun x2 hx2 => ?_⟩
    have D3 := D3.new (o := .lst [.int 11, .int 13]) hx2
    have e1 := Same.new (o := .lst [.int 11, .int 13]) hx2 _ _ e1
    have e2 : (upd H4 x2 (.lst [.int 11, .int 13])) x2 = some (.lst [.int 11, .int 13]) := upd_same
    generalize upd H4 x2 (.lst [.int 11, .int 13]) = H5 at D3 e1 e2 ⊢
    refine ⟨by show 2 ≤ sizeLine; decide, fun x3 hx3 => ?_⟩
    have D3 := D3.new (o := .lst [.ref x1, .ref x2]) hx3
    have e1 := Same.new (o := .lst [.ref x1, .ref x2]) hx3 _ _ e1
    have e2 := Same.new (o := .lst [.ref x1, .ref x2]) hx3 _ _ e2
    have e3 : (upd H5 x3 (.lst [.ref x1, .ref x2])) x3 = some (.lst [.ref x1, .ref x2]) := upd_same
    generalize upd H5 x3 (.lst [.ref x1, .ref x2]) = H6 at D3 e1 e2 e3 ⊢
    have pick : ∃ xi ys bd, atI [V.ref x1, V.ref x2] ((m : Int) - 3) = some (.ref xi) ∧ H6 xi = some (.lst ys) ∧ atI ys (if b2 = true then 1 else 0) = some (.int bd) ∧ 0 < bd ∧ bd < 2 ^ 200 ∧ (m : Int) + bd ≤ 41 := by
      rw [hm]
      cases b1 <;> cases b2
      · exact ⟨x1, _, 22, rfl, e1, rfl, by decide, by decide, by decide⟩
      · exact ⟨x1, _, 38, rfl, e1, rfl, by decide, by decide, by decide⟩
      · exact ⟨x2, _, 11, rfl, e2, rfl, by decide, by decide, by decide⟩
      · exact ⟨x2, _, 13, rfl, e2, rfl, by decide, by decide, by decide⟩
    obtain ⟨xi, ys, bd, p1, p2, p3, bd0, bd1, bd2⟩ := pick
    refine ⟨_, rfl, _, _, rfl, rfl, x3, _, _, _, rfl, rfl, SqL.of e3, p1, ?_⟩
    refine ⟨_, rfl, xi, ys, _, _, rfl, rfl, SqL.of p2, p3, ?_⟩
    refine ⟨h, c, bd, rfl, D3, bd0, bd1, fun n3 H7 n30 n31 D7 k7 => ⟨_, _, rfl, rfl, ?_⟩⟩
    dsimp only
    obtain ⟨TT, hTT⟩ : ∃ TT : Int, TT = (m : Int) + n3 := ⟨_, rfl⟩
    rw [← hTT]
    have hm3 : 3 ≤ m := by rw [hm]; cases b1 <;> decide
    have hm4 : m ≤ 4 := by rw [hm]; cases b1 <;> decide
    have hmT : (m : Int) ≤ TT := by omega
    have hT40 : TT ≤ 40 := by omega
    obtain ⟨R, hR⟩ : ∃ R, R = ascF m TT 1 := ⟨_, rfl⟩
    have hRl : R.length ≤ 2825761 := by
      have h1 := ascF_len m TT 1 hT40 (by decide)
      have h2 : 41 ^ m ≤ 41 ^ 4 := Nat.pow_le_pow_right (by decide) hm4
      have h3 : 41 ^ 4 = 2825761 := by decide
      rw [hR]
      omega
    have neR : R ≠ [] := hR ▸ ascF_ne m TT 1 (by omega) (by decide) (by omega)
    -- the rows
    refine ⟨_, rfl, _, rfl, m, TT, 1, rfl, by omega, hm4, hm4, hT40, by omega, by decide, by decide, fun lp rs H8 s8 hlp hl8 ht8 hre => ⟨lp, rfl, ⟨_, SqL.of hl8⟩, fun D2 hD2 => ?_⟩⟩
    rw [everF_is m TT 1 (by omega) (by decide) (by omega), ← hR] at hre
    have hrl : (rs.map fun q => V.ref q.1).length = R.length := by rw [← hre, List.length_map, List.length_map]
    refine lc_list (K := K) (a := lp) (xs := rs.map fun q => V.ref q.1) (fun j G => ∃ ws : List Rw, G D2 = some (.lst (ws.map fun w => V.ref w.tp)) ∧ Same H8 G ∧ (∀ w ∈ ws, RwAt R G w ∧ w.pa ≠ D2) ∧ ws.map (·.x) = R.take j) ⟨[], upd_same, Same.new hD2, (fun w hw => nomatch hw), rfl⟩ (fun j G _ ⟨_, _, s, _⟩ => SqL.of (s _ _ hl8)) ?_ ?_
    · rintro j x G hx ⟨ws, eD, sG, hw, hx2⟩
      rw [List.getElem?_map] at hx
      obtain ⟨q, hq, rfl⟩ := Option.map_eq_some_iff.mp hx
      have hRj : R[j]? = some q.2 := by rw [← hre, List.getElem?_map, hq]; rfl
      have hj := (List.getElem?_eq_some_iff.mp hRj).1
      have hqG := sG _ _ (ht8 q (List.mem_of_getElem? hq))
      refine ⟨rfl, _, rfl, _, rfl, q.1, m, TT, q.2, rfl, hqG, hm3, hm4, hmT, hT40, hR ▸ List.mem_of_getElem? hRj, fun p b G2 s2 np hb ep => ?_⟩
      have npD : p ≠ D2 := fun z => by rw [z, eD] at np; cases np
      refine ⟨by show 2 ≤ sizeLine; decide, fun tp htp => ?_⟩
      have s3 : Same G2 (upd G2 tp (.tup [.ref q.1, .ref p])) := Same.new htp
      have e4 : (upd G2 tp (.tup [.ref q.1, .ref p])) tp = some (.tup [.ref q.1, .ref p]) := upd_same
      generalize upd G2 tp (.tup [.ref q.1, .ref p]) = G3 at s3 e4 ⊢
      have sGG := s2.trans s3
      have eD3 := sGG _ _ eD
      have hwl := congrArg List.length hx2
      rw [List.length_map, List.length_take] at hwl
      refine ⟨_, eD3, by rw [List.length_map, sizeLine_eq]; omega, ws ++ [⟨tp, q.1, p, q.2, b⟩], by rw [upd_same, List.map_append]; rfl, same_upd (sG.trans sGG) hD2, fun w hw' => ?_, ?_⟩
      · rcases List.mem_append.mp hw' with z | z
        · obtain ⟨a1, a2⟩ := hw w z
          exact ⟨(a1.nx (NX.of sGG)).at_ eD3 a2, a2⟩
        · rw [List.mem_singleton.mp z]
          exact ⟨RwAt.at_ eD3 npD ⟨e4, sGG _ _ hqG, s3 _ _ ep, hR ▸ hb⟩, npD⟩
      · rw [List.map_append, hx2, List.take_add_one, hRj]
        rfl
    rintro G ⟨ws, eD, sG, hw, hx2⟩
    rw [hrl, List.take_length] at hx2
    have hw : ∀ w ∈ ws, RwAt R G w := fun w hw' => (hw w hw').1
    have hwl : ws.length = R.length := by rw [← hx2, List.length_map]
    -- the greatest
    refine ⟨_, rfl, D2, rfl, ⟨_, SqL.of eD⟩, fun D3' hD3 => lc_list (K := K) (a := D2) (xs := ws.map fun w => V.ref w.tp) (fun j G2 => G2 D3' = some (.lst ((ws.take j).map fun w => V.int (fwU w.x : Int))) ∧ Same G G2) ⟨upd_same, Same.new hD3⟩ (fun j G2 _ ⟨_, s⟩ => SqL.of (s _ _ eD)) ?_ ?_⟩
    · rintro j x G2 hx ⟨eG, sG2⟩
      rw [List.getElem?_map] at hx
      obtain ⟨w, hwj, rfl⟩ := Option.map_eq_some_iff.mp hx
      have hj := (List.getElem?_eq_some_iff.mp hwj).1
      have r := (hw w (List.mem_of_getElem? hwj)).nx (NX.of sG2)
      refine ⟨rfl, _, rfl, w.tp, _, 1, _, rfl, rfl, SqT.of r.t, rfl, w.pa, _, 0, _, rfl, rfl, SqL.of r.p, rfl, _, eG, by rw [List.length_map, List.length_take, sizeLine_eq]; omega, ?_, same_upd sG2 hD3⟩
      rw [upd_same, map_take hwj]
    rintro G2 ⟨eG2, sG2⟩
    rw [List.length_map, List.take_length] at eG2
    have emap : (ws.map fun w => V.int (fwU w.x : Int)) = (ws.map fun w => (fwU w.x : Int)).map V.int := by rw [List.map_map]; rfl
    rw [emap] at eG2
    refine ⟨D3', _, rfl, SqL.of eG2, by rw [List.length_map, hwl]; exact List.length_pos_iff.mpr neR, fun g hg hgm => ?_⟩
    have eg : g = (hdB m TT : Int) := by
      obtain ⟨w, hw1, rfl⟩ := List.mem_map.mp hg
      have e : hdB m TT = fwU w.x := by
        unfold hdB
        rw [← hR, ← hx2, List.map_map]
        refine max_is (List.mem_map.mpr ⟨w, hw1, rfl⟩) fun y hy => ?_
        obtain ⟨w2, hw2, rfl⟩ := List.mem_map.mp hy
        have := hgm _ (List.mem_map.mpr ⟨w2, hw2, rfl⟩)
        show fwU w2.x ≤ fwU w.x
        omega
      rw [e]
    have eD := sG2 _ _ eD
    have hw := fun w hw' => (hw w hw').nx (NX.of sG2)
    -- the due heaps
    refine ⟨_, rfl, D2, rfl, ⟨_, SqL.of eD⟩, fun D4 hD4 => lc_list (K := K) (a := D2) (xs := ws.map fun w => V.ref w.tp) (fun j G3 => ∃ gs : List Hrow, TL G2 G3 D4 gs ∧ gs.map (·.2) = (R.take j).filter fun x => decide (fwU x = hdB m TT)) ⟨[], TL.new hD4, rfl⟩ (fun j G3 _ ⟨_, tl, _⟩ => SqL.of (tl.sm _ _ eD)) ?_ ?_⟩
    · rintro j x G3 hx ⟨gs, tl, hgs⟩
      rw [List.getElem?_map] at hx
      obtain ⟨w, hwj, rfl⟩ := Option.map_eq_some_iff.mp hx
      have hj := (List.getElem?_eq_some_iff.mp hwj).1
      have hRj : R[j]? = some w.x := by rw [← hx2, List.getElem?_map, hwj]; rfl
      have r := (hw w (List.mem_of_getElem? hwj)).nx (NX.of tl.sm)
      refine ⟨rfl, _, rfl, w.tp, _, 1, _, rfl, rfl, SqT.of r.t, rfl, w.pa, _, 0, _, rfl, rfl, SqL.of r.p, rfl, _, rfl, rfl, _, rfl, ?_⟩
      rw [eg, dec_int, filter_take hRj]
      by_cases ce : fwU w.x = hdB m TT
      · rw [decide_eq_true (show (fwU w.x : Int) = (hdB m TT : Int) by rw [ce])]
        have hgl := congrArg List.length hgs
        have hgl2 := List.length_filter_le (fun x => decide (fwU x = hdB m TT)) (R.take j)
        rw [List.length_map] at hgl
        rw [List.length_take] at hgl2
        refine iteT ⟨_, rfl, w.tp, _, 0, _, rfl, rfl, SqT.of r.t, rfl, _, tl.ls, by rw [List.length_map, sizeLine_eq]; omega, gs ++ [(w.qa, w.x)], tl.push r.q, ?_⟩
        rw [if_pos (decide_eq_true ce), List.map_append, hgs]
        rfl
      · rw [decide_eq_false (show ¬ (fwU w.x : Int) = (hdB m TT : Int) by omega)]
        refine iteF ⟨gs, tl, ?_⟩
        rw [if_neg (by rw [decide_eq_false ce]; decide), List.append_nil]
        exact hgs
    rintro G3 ⟨gs, tl, hgs⟩
    rw [List.length_map, hwl, List.take_length] at hgs
    have eD := tl.sm _ _ eD
    have hw := fun w hw' => (hw w hw').nx (NX.of tl.sm)
    -- hardest
    refine ⟨_, rfl, _, rfl, m, TT, rfl, hm3, hm4, hmT, hT40, fun ha la hh G4 n4 _ _ eha ela sth qh => ?_⟩
    refine ⟨_, rfl, _, rfl, by show 2 ≤ sizeLine; decide, fun tp htp => ?_⟩
    have s5 : Same G4 (upd G4 tp (.tup [.int g, .ref D4])) := Same.new htp
    have e5 : (upd G4 tp (.tup [.int g, .ref D4])) tp = some (.tup [.int g, .ref D4]) := upd_same
    generalize upd G4 tp (.tup [.int g, .ref D4]) = G5 at s5 e5 ⊢
    have n35 := n4.then (NX.of s5)
    have dd1 : Dp K G5 (.ref ha) (dG (hdB m TT : Int) (R.filter fun x => decide (fwU x = hdB m TT))) := by
      have z := dp_rows (K := K) fun p hp => s5 _ _ (sth p hp)
      rw [qh, ← hR] at z
      exact .tup (SqT.of (s5 _ _ eha)) (.cons (.int _) (.cons (.lst (SqL.of (s5 _ _ ela)) z) .nil))
    have dd2 : Dp K G5 (.ref tp) (dG (hdB m TT : Int) (R.filter fun x => decide (fwU x = hdB m TT))) := by
      have z := dp_rows (K := K) fun p hp => n35 _ _ (by intro φ z; cases z) (tl.st p hp)
      rw [hgs] at z
      rw [eg] at e5
      exact .tup (SqT.of e5) (.cons (.int _) (.cons (.lst (SqL.of (n35 _ _ (by intro φ z; cases z) tl.ls)) z) .nil))
    refine ⟨_, _, dd1, dd2, dG_ok _ _, dG_ok _ _, _, rfl, ?_⟩
    rw [dG_self]
    refine iteF ?_
    have eD := n35 _ _ (by intro φ z; cases z) eD
    have hw := fun w hw' => (hw w hw').nx n35
    -- returning
    refine ⟨_, rfl, _, rfl, m, TT, rfl, hm3, hm4, hmT, hT40, fun la2 hr G6 n6 _ el6 st6 q6 => ?_⟩
    have eD := n6 _ _ (by intro φ z; cases z) eD
    have hw := fun w hw' => (hw w hw').nx n6
    refine ⟨_, rfl, D2, rfl, ⟨_, SqL.of eD⟩, fun D5 hD5 => lc_list (K := K) (a := D2) (xs := ws.map fun w => V.ref w.tp) (fun j G7 => ∃ gs : List Hrow, TL G6 G7 D5 gs ∧ gs.map (·.2) = ((ws.take j).filter (·.b)).map (·.x)) ⟨[], TL.new hD5, rfl⟩ (fun j G7 _ ⟨_, tl, _⟩ => SqL.of (tl.sm _ _ eD)) ?_ ?_⟩
    · rintro j x G7 hx ⟨gs, tl, hgs⟩
      rw [List.getElem?_map] at hx
      obtain ⟨w, hwj, rfl⟩ := Option.map_eq_some_iff.mp hx
      have hj := (List.getElem?_eq_some_iff.mp hwj).1
      have r := (hw w (List.mem_of_getElem? hwj)).nx (NX.of tl.sm)
      refine ⟨rfl, _, rfl, w.tp, _, 1, _, rfl, rfl, SqT.of r.t, rfl, w.pa, _, 1, _, rfl, rfl, SqL.of r.p, rfl, w.b, rfl, ?_⟩
      rw [filter_take hwj]
      cases hb : w.b with
      | true =>
        have hgl := congrArg List.length hgs
        have hgl2 := List.length_filter_le (fun w : Rw => w.b) (ws.take j)
        rw [List.length_map, List.length_map] at hgl
        rw [List.length_take] at hgl2
        refine iteT ⟨_, rfl, w.tp, _, 0, _, rfl, rfl, SqT.of r.t, rfl, _, tl.ls, by rw [List.length_map, sizeLine_eq]; omega, gs ++ [(w.qa, w.x)], tl.push r.q, ?_⟩
        rw [if_pos rfl, List.map_append, hgs, List.map_append]
        rfl
      | false =>
        refine iteF ⟨gs, tl, ?_⟩
        rw [if_neg (by decide), List.append_nil]
        exact hgs
    rintro G7 ⟨gs2, tl2, hgs2⟩
    rw [List.length_map, List.take_length] at hgs2
    have eret : (ws.filter (·.b)).map (·.x) = retU m TT := by
      unfold retU
      rw [← hR]
      have key : ∀ us : List Rw, (∀ w ∈ us, w.b = true ↔ Lead nxI R w.x w.x) → (us.filter (·.b)).map (·.x) = (us.map (·.x)).filter fun x => @decide (Lead nxI R x x) (Classical.propDecidable _) := fun us => by
        induction us with
        | nil => intro _; rfl
        | cons u us ih =>
          intro hu
          have i1 := ih fun w hw' => hu w (List.mem_cons_of_mem _ hw')
          have i2 := hu u List.mem_cons_self
          have i3 := @decide_eq_true_iff (Lead nxI R u.x u.x) (Classical.propDecidable _)
          rw [List.filter_cons, List.map_cons, List.filter_cons]
          by_cases cb : u.b = true
          · rw [if_pos cb, if_pos (i3.mpr (i2.mp cb)), List.map_cons, i1]
          · rw [if_neg cb, if_neg (fun z => cb (i2.mpr (i3.mp z))), i1]
      rw [key ws fun w hw' => (hw w hw').l, hx2]
    rw [eret] at hgs2
    have dd3 : Dp K G7 (.ref la2) (.list ((retU m TT).map dI)) := by
      have z := dp_rows (K := K) fun p hp => tl2.sm _ _ (st6 p hp)
      rw [q6] at z
      exact .lst (SqL.of (tl2.sm _ _ el6)) z
    have dd4 : Dp K G7 (.ref D5) (.list ((retU m TT).map dI)) := by
      have z := dp_rows (K := K) tl2.st
      rw [hgs2] at z
      exact .lst (SqL.of tl2.ls) z
    refine ⟨_, _, dd3, dd4, hs_ok _, hs_ok _, ?_⟩
    rw [dL_self]
    exact k _
end
end Hd
set_option maxHeartbeats 4000000
namespace Hd
open PySem PySem.Spec PyProof.Rows L2
abbrev s_HeapError_init : Stmt := inClass (top 1) 0
theorem sup_mk {prog : Program} {K : PySem.W.Frag} {fI HE cc cda : Addr} {oc kV dc pm ct ccl cl : Value} {od an cdd cld : Option Addr} {osl ccs csl : Array (Option Value)} {vs : Array Value} {file : Str} {tf : Tok} {cdD : ClassData}
    (tI : PySem.W.typeIn K (.ref fI) = some (.type "function"))
    (lI : K.lookup fI = some ⟨oc, od, .func (PySem.W.fnX "__init__" "HeapError.__init__" (defArgs s_HeapError_init) (defBody s_HeapError_init) (defScope s_HeapError_init) [("__class__", cc)] .none kV dc pm an (.ref cda) ct), osl⟩)
    (cI : PySem.W.codeIn K (.ref cda) "HeapError.__init__" = true) (lcda : K.lookup cda = some ⟨ccl, cdd, .fields vs, ccs⟩) (hvs : vs[2]? = some (.str file tf)) (hfile : ((prog.main.file : Str) == file) = true)
    (lcc : K.lookup cc = some ⟨cl, cld, .cell (some (.ref HE)), csl⟩) (hD : PySem.W.clsIn K HE = some cdD) (zs : PySem.W.nsIn K mainGlobals "super" = some none) (thr : PySem.W.nsIn K cStatics "thirdparty.any" = some none)
    (top : (prog.main.scope.names.lookup ("super" : Str)).isSome = false) : SupDef prog K fI HE :=
  ⟨⟨oc, od, an, defArgs s_HeapError_init, "HeapError.__init__", .none, kV, dc, pm, ct, cc, cda, osl, _, _, _, _, _, _, ccl, cl, cdd, cld, vs, ccs, csl, file, tf, cdD, lI, cI, rfl, rfl, fun v => rfl, fun L => ⟨_, rfl⟩, lcda, hvs, hfile, lcc, hD⟩, tI, zs, thr, top⟩
end Hd
set_option maxHeartbeats 8000000
namespace Hd
open PySem PySem.Spec PyProof.Rows L2
theorem all_mk {l : PySem.W.OpenLaw} {w : World} {K : PySem.W.Frag} {h : Heap} {mg : Str → Option Value} {fa : Addr} (X : K.In h) (G : h.Ns mainGlobals mg) (hfa : mg "law" = some (.ref fa))
    {HE f_HI cc cda : Addr} {ocI kVI dcI pmI ctI ccl cl : Value} {odI anI cdd cld : Option Addr} {oslI ccs csl : Array (Option Value)} {vs : Array Value} {file : Str} {tf : Tok} {cdD : ClassData}
    {A_BadHeaps N_BadHeaps : Addr} {nm_BadHeaps q_BadHeaps : Str} {bs_BadHeaps sub_BadHeaps : List Value} {sn_BadHeaps : List Str} {ab_BadHeaps : Bool} {col_BadHeaps : Option Bool} {dd_BadHeaps : Option Addr} {m0_BadHeaps m1_BadHeaps m2_BadHeaps m3_BadHeaps m5_BadHeaps : Option Value}
    (x_BadHeaps : PySem.W.nsIn K mainGlobals "BadHeaps" = some (some (.ref A_BadHeaps)))
    (xL_BadHeaps : K.lookup A_BadHeaps = some (excClassObj nm_BadHeaps q_BadHeaps A_BadHeaps N_BadHeaps bs_BadHeaps [.ref HE, .type "ValueError", .type "Exception", .type "BaseException", .type "object"] true sn_BadHeaps sub_BadHeaps ab_BadHeaps col_BadHeaps dd_BadHeaps m0_BadHeaps m1_BadHeaps m2_BadHeaps m3_BadHeaps m5_BadHeaps "ValueError.__new__"))
    (iHI_BadHeaps : PySem.W.findIn K (.ref A_BadHeaps) "__init__" = some (some (.ref f_HI)))
    (tI : PySem.W.typeIn K (.ref f_HI) = some (.type "function"))
    (lI : K.lookup f_HI = some ⟨ocI, odI, .func (PySem.W.fnX "__init__" "HeapError.__init__" (defArgs s_HeapError_init) (defBody s_HeapError_init) (defScope s_HeapError_init) [("__class__", cc)] .none kVI dcI pmI anI (.ref cda) ctI), oslI⟩)
    (cI : PySem.W.codeIn K (.ref cda) "HeapError.__init__" = true)
    (lcda : K.lookup cda = some ⟨ccl, cdd, .fields vs, ccs⟩)
    (hvs : vs[2]? = some (.str file tf))
    (hfile : ((l.prog.main.file : Str) == file) = true)
    (lcc : K.lookup cc = some ⟨cl, cld, .cell (some (.ref HE)), csl⟩)
    (hD : PySem.W.clsIn K HE = some cdD)
    (thr : PySem.W.nsIn K cStatics "thirdparty.any" = some none)
    (topN : (l.prog.main.scope.names.lookup ("super" : Str)).isSome = false)
    (z_super : PySem.W.nsIn K mainGlobals "super" = some none)
    (supI_BadHeaps : PySem.W.ks_superIn K A_BadHeaps HE "__init__" = some (some (.builtin "ValueError.__init__")))
    (mroI_BadHeaps : PySem.W.mroIn K A_BadHeaps (.ref HE) = some true)
    (veI_BadHeaps : PySem.W.subIn K (.ref A_BadHeaps) (.type "ValueError") = some true)
    (xinI_BadHeaps : PySem.W.excInitIn K A_BadHeaps [.type "ValueError", .type "Exception", .type "BaseException", .type "object"] "ValueError.__new__" = true)
    (kC_BadHeaps : PySem.W.keepIn K (.ref A_BadHeaps) = true)
    (eC_BadHeaps : PySem.W.subIn K (.ref A_BadHeaps) (.type "BaseException") = some true)
    (tC_BadHeaps : PySem.W.typeIn K (.ref A_BadHeaps) = some (.type "type"))
    (iC_BadHeaps : PySem.W.isClsIn K A_BadHeaps = true)
    (sC_BadHeaps : PySem.W.subIn K (.ref A_BadHeaps) (.ref A_BadHeaps) = some true)
    {A_TooGreat N_TooGreat : Addr} {nm_TooGreat q_TooGreat : Str} {bs_TooGreat sub_TooGreat : List Value} {sn_TooGreat : List Str} {ab_TooGreat : Bool} {col_TooGreat : Option Bool} {dd_TooGreat : Option Addr} {m0_TooGreat m1_TooGreat m2_TooGreat m3_TooGreat m5_TooGreat : Option Value}
    (x_TooGreat : PySem.W.nsIn K mainGlobals "TooGreat" = some (some (.ref A_TooGreat)))
    (xL_TooGreat : K.lookup A_TooGreat = some (excClassObj nm_TooGreat q_TooGreat A_TooGreat N_TooGreat bs_TooGreat [.ref HE, .type "ValueError", .type "Exception", .type "BaseException", .type "object"] true sn_TooGreat sub_TooGreat ab_TooGreat col_TooGreat dd_TooGreat m0_TooGreat m1_TooGreat m2_TooGreat m3_TooGreat m5_TooGreat "ValueError.__new__"))
    (iHI_TooGreat : PySem.W.findIn K (.ref A_TooGreat) "__init__" = some (some (.ref f_HI)))
    (supI_TooGreat : PySem.W.ks_superIn K A_TooGreat HE "__init__" = some (some (.builtin "ValueError.__init__")))
    (mroI_TooGreat : PySem.W.mroIn K A_TooGreat (.ref HE) = some true)
    (veI_TooGreat : PySem.W.subIn K (.ref A_TooGreat) (.type "ValueError") = some true)
    (xinI_TooGreat : PySem.W.excInitIn K A_TooGreat [.type "ValueError", .type "Exception", .type "BaseException", .type "object"] "ValueError.__new__" = true)
    (kC_TooGreat : PySem.W.keepIn K (.ref A_TooGreat) = true)
    (eC_TooGreat : PySem.W.subIn K (.ref A_TooGreat) (.type "BaseException") = some true)
    (tC_TooGreat : PySem.W.typeIn K (.ref A_TooGreat) = some (.type "type"))
    (iC_TooGreat : PySem.W.isClsIn K A_TooGreat = true)
    (sC_TooGreat : PySem.W.subIn K (.ref A_TooGreat) (.ref A_TooGreat) = some true)
    {A_BadMany N_BadMany : Addr} {nm_BadMany q_BadMany : Str} {bs_BadMany sub_BadMany : List Value} {sn_BadMany : List Str} {ab_BadMany : Bool} {col_BadMany : Option Bool} {dd_BadMany : Option Addr} {m0_BadMany m1_BadMany m2_BadMany m3_BadMany m5_BadMany : Option Value}
    (x_BadMany : PySem.W.nsIn K mainGlobals "BadMany" = some (some (.ref A_BadMany)))
    (xL_BadMany : K.lookup A_BadMany = some (excClassObj nm_BadMany q_BadMany A_BadMany N_BadMany bs_BadMany [.ref HE, .type "ValueError", .type "Exception", .type "BaseException", .type "object"] true sn_BadMany sub_BadMany ab_BadMany col_BadMany dd_BadMany m0_BadMany m1_BadMany m2_BadMany m3_BadMany m5_BadMany "ValueError.__new__"))
    (iHI_BadMany : PySem.W.findIn K (.ref A_BadMany) "__init__" = some (some (.ref f_HI)))
    (supI_BadMany : PySem.W.ks_superIn K A_BadMany HE "__init__" = some (some (.builtin "ValueError.__init__")))
    (mroI_BadMany : PySem.W.mroIn K A_BadMany (.ref HE) = some true)
    (veI_BadMany : PySem.W.subIn K (.ref A_BadMany) (.type "ValueError") = some true)
    (xinI_BadMany : PySem.W.excInitIn K A_BadMany [.type "ValueError", .type "Exception", .type "BaseException", .type "object"] "ValueError.__new__" = true)
    (kC_BadMany : PySem.W.keepIn K (.ref A_BadMany) = true)
    (eC_BadMany : PySem.W.subIn K (.ref A_BadMany) (.type "BaseException") = some true)
    (tC_BadMany : PySem.W.typeIn K (.ref A_BadMany) = some (.type "type"))
    (iC_BadMany : PySem.W.isClsIn K A_BadMany = true)
    (sC_BadMany : PySem.W.subIn K (.ref A_BadMany) (.ref A_BadMany) = some true)
    {A_BadTotal N_BadTotal : Addr} {nm_BadTotal q_BadTotal : Str} {bs_BadTotal sub_BadTotal : List Value} {sn_BadTotal : List Str} {ab_BadTotal : Bool} {col_BadTotal : Option Bool} {dd_BadTotal : Option Addr} {m0_BadTotal m1_BadTotal m2_BadTotal m3_BadTotal m5_BadTotal : Option Value}
    (x_BadTotal : PySem.W.nsIn K mainGlobals "BadTotal" = some (some (.ref A_BadTotal)))
    (xL_BadTotal : K.lookup A_BadTotal = some (excClassObj nm_BadTotal q_BadTotal A_BadTotal N_BadTotal bs_BadTotal [.ref HE, .type "ValueError", .type "Exception", .type "BaseException", .type "object"] true sn_BadTotal sub_BadTotal ab_BadTotal col_BadTotal dd_BadTotal m0_BadTotal m1_BadTotal m2_BadTotal m3_BadTotal m5_BadTotal "ValueError.__new__"))
    (iHI_BadTotal : PySem.W.findIn K (.ref A_BadTotal) "__init__" = some (some (.ref f_HI)))
    (supI_BadTotal : PySem.W.ks_superIn K A_BadTotal HE "__init__" = some (some (.builtin "ValueError.__init__")))
    (mroI_BadTotal : PySem.W.mroIn K A_BadTotal (.ref HE) = some true)
    (veI_BadTotal : PySem.W.subIn K (.ref A_BadTotal) (.type "ValueError") = some true)
    (xinI_BadTotal : PySem.W.excInitIn K A_BadTotal [.type "ValueError", .type "Exception", .type "BaseException", .type "object"] "ValueError.__new__" = true)
    (kC_BadTotal : PySem.W.keepIn K (.ref A_BadTotal) = true)
    (eC_BadTotal : PySem.W.subIn K (.ref A_BadTotal) (.type "BaseException") = some true)
    (tC_BadTotal : PySem.W.typeIn K (.ref A_BadTotal) = some (.type "type"))
    (iC_BadTotal : PySem.W.isClsIn K A_BadTotal = true)
    (sC_BadTotal : PySem.W.subIn K (.ref A_BadTotal) (.ref A_BadTotal) = some true)
    {od_is_integer an_is_integer : Option Addr} {sl_is_integer : Array (Option Value)} {oc_is_integer kV_is_integer dc_is_integer pm_is_integer cd_is_integer ct_is_integer : Value} {f_is_integer : Addr}
    (a_is_integer : PySem.W.nsIn K mainGlobals "is_integer" = some (some (.ref f_is_integer)))
    (l_is_integer : K.lookup f_is_integer = some ⟨oc_is_integer, od_is_integer, .func (PySem.W.fnOf "is_integer" "is_integer" (defArgs s_is_integer) (defBody s_is_integer) (defScope s_is_integer) .none kV_is_integer dc_is_integer pm_is_integer an_is_integer cd_is_integer ct_is_integer), sl_is_integer⟩)
    (c_is_integer : PySem.W.codeIn K cd_is_integer "is_integer" = true) (k_is_integer : PySem.W.keepIn K (.ref f_is_integer) = true)
    {od_is_heaps an_is_heaps : Option Addr} {sl_is_heaps : Array (Option Value)} {oc_is_heaps kV_is_heaps dc_is_heaps pm_is_heaps cd_is_heaps ct_is_heaps : Value} {f_is_heaps : Addr}
    (a_is_heaps : PySem.W.nsIn K mainGlobals "is_heaps" = some (some (.ref f_is_heaps)))
    (l_is_heaps : K.lookup f_is_heaps = some ⟨oc_is_heaps, od_is_heaps, .func (PySem.W.fnOf "is_heaps" "is_heaps" (defArgs s_is_heaps) (defBody s_is_heaps) (defScope s_is_heaps) .none kV_is_heaps dc_is_heaps pm_is_heaps an_is_heaps cd_is_heaps ct_is_heaps), sl_is_heaps⟩)
    (c_is_heaps : PySem.W.codeIn K cd_is_heaps "is_heaps" = true) (k_is_heaps : PySem.W.keepIn K (.ref f_is_heaps) = true)
    {od_check_heaps an_check_heaps : Option Addr} {sl_check_heaps : Array (Option Value)} {oc_check_heaps kV_check_heaps dc_check_heaps pm_check_heaps cd_check_heaps ct_check_heaps : Value} {f_check_heaps : Addr}
    (a_check_heaps : PySem.W.nsIn K mainGlobals "check_heaps" = some (some (.ref f_check_heaps)))
    (l_check_heaps : K.lookup f_check_heaps = some ⟨oc_check_heaps, od_check_heaps, .func (PySem.W.fnOf "check_heaps" "check_heaps" (defArgs s_check_heaps) (defBody s_check_heaps) (defScope s_check_heaps) .none kV_check_heaps dc_check_heaps pm_check_heaps an_check_heaps cd_check_heaps ct_check_heaps), sl_check_heaps⟩)
    (c_check_heaps : PySem.W.codeIn K cd_check_heaps "check_heaps" = true) (k_check_heaps : PySem.W.keepIn K (.ref f_check_heaps) = true)
    {od_pairs_of an_pairs_of : Option Addr} {sl_pairs_of : Array (Option Value)} {oc_pairs_of kV_pairs_of dc_pairs_of pm_pairs_of cd_pairs_of ct_pairs_of : Value} {f_pairs_of : Addr}
    (a_pairs_of : PySem.W.nsIn K mainGlobals "pairs_of" = some (some (.ref f_pairs_of)))
    (l_pairs_of : K.lookup f_pairs_of = some ⟨oc_pairs_of, od_pairs_of, .func (PySem.W.fnOf "pairs_of" "pairs_of" (defArgs s_pairs_of) (defBody s_pairs_of) (defScope s_pairs_of) .none kV_pairs_of dc_pairs_of pm_pairs_of an_pairs_of cd_pairs_of ct_pairs_of), sl_pairs_of⟩)
    (c_pairs_of : PySem.W.codeIn K cd_pairs_of "pairs_of" = true) (k_pairs_of : PySem.W.keepIn K (.ref f_pairs_of) = true)
    {od_can_be_made an_can_be_made : Option Addr} {sl_can_be_made : Array (Option Value)} {oc_can_be_made kV_can_be_made dc_can_be_made pm_can_be_made cd_can_be_made ct_can_be_made : Value} {f_can_be_made : Addr}
    (a_can_be_made : PySem.W.nsIn K mainGlobals "can_be_made" = some (some (.ref f_can_be_made)))
    (l_can_be_made : K.lookup f_can_be_made = some ⟨oc_can_be_made, od_can_be_made, .func (PySem.W.fnOf "can_be_made" "can_be_made" (defArgs s_can_be_made) (defBody s_can_be_made) (defScope s_can_be_made) .none kV_can_be_made dc_can_be_made pm_can_be_made an_can_be_made cd_can_be_made ct_can_be_made), sl_can_be_made⟩)
    (c_can_be_made : PySem.W.codeIn K cd_can_be_made "can_be_made" = true) (k_can_be_made : PySem.W.keepIn K (.ref f_can_be_made) = true)
    {od_steps_from an_steps_from : Option Addr} {sl_steps_from : Array (Option Value)} {oc_steps_from kV_steps_from dc_steps_from pm_steps_from cd_steps_from ct_steps_from : Value} {f_steps_from : Addr}
    (a_steps_from : PySem.W.nsIn K mainGlobals "steps_from" = some (some (.ref f_steps_from)))
    (l_steps_from : K.lookup f_steps_from = some ⟨oc_steps_from, od_steps_from, .func (PySem.W.fnOf "steps_from" "steps_from" (defArgs s_steps_from) (defBody s_steps_from) (defScope s_steps_from) .none kV_steps_from dc_steps_from pm_steps_from an_steps_from cd_steps_from ct_steps_from), sl_steps_from⟩)
    (c_steps_from : PySem.W.codeIn K cd_steps_from "steps_from" = true) (k_steps_from : PySem.W.keepIn K (.ref f_steps_from) = true)
    {od_shifted an_shifted : Option Addr} {sl_shifted : Array (Option Value)} {oc_shifted kV_shifted dc_shifted pm_shifted cd_shifted ct_shifted : Value} {f_shifted : Addr}
    (a_shifted : PySem.W.nsIn K mainGlobals "shifted" = some (some (.ref f_shifted)))
    (l_shifted : K.lookup f_shifted = some ⟨oc_shifted, od_shifted, .func (PySem.W.fnOf "shifted" "shifted" (defArgs s_shifted) (defBody s_shifted) (defScope s_shifted) .none kV_shifted dc_shifted pm_shifted an_shifted cd_shifted ct_shifted), sl_shifted⟩)
    (c_shifted : PySem.W.codeIn K cd_shifted "shifted" = true) (k_shifted : PySem.W.keepIn K (.ref f_shifted) = true)
    {od_behind an_behind : Option Addr} {sl_behind : Array (Option Value)} {oc_behind kV_behind dc_behind pm_behind cd_behind ct_behind : Value} {f_behind : Addr}
    (a_behind : PySem.W.nsIn K mainGlobals "behind" = some (some (.ref f_behind)))
    (l_behind : K.lookup f_behind = some ⟨oc_behind, od_behind, .func (PySem.W.fnOf "behind" "behind" (defArgs s_behind) (defBody s_behind) (defScope s_behind) .none kV_behind dc_behind pm_behind an_behind cd_behind ct_behind), sl_behind⟩)
    (c_behind : PySem.W.codeIn K cd_behind "behind" = true) (k_behind : PySem.W.keepIn K (.ref f_behind) = true)
    {od_all_behind an_all_behind : Option Addr} {sl_all_behind : Array (Option Value)} {oc_all_behind kV_all_behind dc_all_behind pm_all_behind cd_all_behind ct_all_behind : Value} {f_all_behind : Addr}
    (a_all_behind : PySem.W.nsIn K mainGlobals "all_behind" = some (some (.ref f_all_behind)))
    (l_all_behind : K.lookup f_all_behind = some ⟨oc_all_behind, od_all_behind, .func (PySem.W.fnOf "all_behind" "all_behind" (defArgs s_all_behind) (defBody s_all_behind) (defScope s_all_behind) .none kV_all_behind dc_all_behind pm_all_behind an_all_behind cd_all_behind ct_all_behind), sl_all_behind⟩)
    (c_all_behind : PySem.W.codeIn K cd_all_behind "all_behind" = true) (k_all_behind : PySem.W.keepIn K (.ref f_all_behind) = true)
    {od_origins an_origins : Option Addr} {sl_origins : Array (Option Value)} {oc_origins kV_origins dc_origins pm_origins cd_origins ct_origins : Value} {f_origins : Addr}
    (a_origins : PySem.W.nsIn K mainGlobals "origins" = some (some (.ref f_origins)))
    (l_origins : K.lookup f_origins = some ⟨oc_origins, od_origins, .func (PySem.W.fnOf "origins" "origins" (defArgs s_origins) (defBody s_origins) (defScope s_origins) .none kV_origins dc_origins pm_origins an_origins cd_origins ct_origins), sl_origins⟩)
    (c_origins : PySem.W.codeIn K cd_origins "origins" = true) (k_origins : PySem.W.keepIn K (.ref f_origins) = true)
    {od_fronts an_fronts : Option Addr} {sl_fronts : Array (Option Value)} {oc_fronts kV_fronts dc_fronts pm_fronts cd_fronts ct_fronts : Value} {f_fronts : Addr}
    (a_fronts : PySem.W.nsIn K mainGlobals "fronts" = some (some (.ref f_fronts)))
    (l_fronts : K.lookup f_fronts = some ⟨oc_fronts, od_fronts, .func (PySem.W.fnOf "fronts" "fronts" (defArgs s_fronts) (defBody s_fronts) (defScope s_fronts) .none kV_fronts dc_fronts pm_fronts an_fronts cd_fronts ct_fronts), sl_fronts⟩)
    (c_fronts : PySem.W.codeIn K cd_fronts "fronts" = true) (k_fronts : PySem.W.keepIn K (.ref f_fronts) = true)
    {od_check_small an_check_small : Option Addr} {sl_check_small : Array (Option Value)} {oc_check_small kV_check_small dc_check_small pm_check_small cd_check_small ct_check_small : Value} {f_check_small : Addr}
    (a_check_small : PySem.W.nsIn K mainGlobals "check_small" = some (some (.ref f_check_small)))
    (l_check_small : K.lookup f_check_small = some ⟨oc_check_small, od_check_small, .func (PySem.W.fnOf "check_small" "check_small" (defArgs s_check_small) (defBody s_check_small) (defScope s_check_small) .none kV_check_small dc_check_small pm_check_small an_check_small cd_check_small ct_check_small), sl_check_small⟩)
    (c_check_small : PySem.W.codeIn K cd_check_small "check_small" = true) (k_check_small : PySem.W.keepIn K (.ref f_check_small) = true)
    {od_fewest an_fewest : Option Addr} {sl_fewest : Array (Option Value)} {oc_fewest kV_fewest dc_fewest pm_fewest cd_fewest ct_fewest : Value} {f_fewest : Addr}
    (a_fewest : PySem.W.nsIn K mainGlobals "fewest" = some (some (.ref f_fewest)))
    (l_fewest : K.lookup f_fewest = some ⟨oc_fewest, od_fewest, .func (PySem.W.fnOf "fewest" "fewest" (defArgs s_fewest) (defBody s_fewest) (defScope s_fewest) .none kV_fewest dc_fewest pm_fewest an_fewest cd_fewest ct_fewest), sl_fewest⟩)
    (c_fewest : PySem.W.codeIn K cd_fewest "fewest" = true) (k_fewest : PySem.W.keepIn K (.ref f_fewest) = true)
    {od_ascending_heaps an_ascending_heaps : Option Addr} {sl_ascending_heaps : Array (Option Value)} {oc_ascending_heaps kV_ascending_heaps dc_ascending_heaps pm_ascending_heaps cd_ascending_heaps ct_ascending_heaps : Value} {f_ascending_heaps : Addr}
    (a_ascending_heaps : PySem.W.nsIn K mainGlobals "ascending_heaps" = some (some (.ref f_ascending_heaps)))
    (l_ascending_heaps : K.lookup f_ascending_heaps = some ⟨oc_ascending_heaps, od_ascending_heaps, .func (PySem.W.fnOf "ascending_heaps" "ascending_heaps" (defArgs s_ascending_heaps) (defBody s_ascending_heaps) (defScope s_ascending_heaps) .none kV_ascending_heaps dc_ascending_heaps pm_ascending_heaps an_ascending_heaps cd_ascending_heaps ct_ascending_heaps), sl_ascending_heaps⟩)
    (c_ascending_heaps : PySem.W.codeIn K cd_ascending_heaps "ascending_heaps" = true) (k_ascending_heaps : PySem.W.keepIn K (.ref f_ascending_heaps) = true)
    {od_ascending_behind an_ascending_behind : Option Addr} {sl_ascending_behind : Array (Option Value)} {oc_ascending_behind kV_ascending_behind dc_ascending_behind pm_ascending_behind cd_ascending_behind ct_ascending_behind : Value} {f_ascending_behind : Addr}
    (a_ascending_behind : PySem.W.nsIn K mainGlobals "ascending_behind" = some (some (.ref f_ascending_behind)))
    (l_ascending_behind : K.lookup f_ascending_behind = some ⟨oc_ascending_behind, od_ascending_behind, .func (PySem.W.fnOf "ascending_behind" "ascending_behind" (defArgs s_ascending_behind) (defBody s_ascending_behind) (defScope s_ascending_behind) .none kV_ascending_behind dc_ascending_behind pm_ascending_behind an_ascending_behind cd_ascending_behind ct_ascending_behind), sl_ascending_behind⟩)
    (c_ascending_behind : PySem.W.codeIn K cd_ascending_behind "ascending_behind" = true) (k_ascending_behind : PySem.W.keepIn K (.ref f_ascending_behind) = true)
    {od_leads_back an_leads_back : Option Addr} {sl_leads_back : Array (Option Value)} {oc_leads_back kV_leads_back dc_leads_back pm_leads_back cd_leads_back ct_leads_back : Value} {f_leads_back : Addr}
    (a_leads_back : PySem.W.nsIn K mainGlobals "leads_back" = some (some (.ref f_leads_back)))
    (l_leads_back : K.lookup f_leads_back = some ⟨oc_leads_back, od_leads_back, .func (PySem.W.fnOf "leads_back" "leads_back" (defArgs s_leads_back) (defBody s_leads_back) (defScope s_leads_back) .none kV_leads_back dc_leads_back pm_leads_back an_leads_back cd_leads_back ct_leads_back), sl_leads_back⟩)
    (c_leads_back : PySem.W.codeIn K cd_leads_back "leads_back" = true) (k_leads_back : PySem.W.keepIn K (.ref f_leads_back) = true)
    {od_check_many_and_total an_check_many_and_total : Option Addr} {sl_check_many_and_total : Array (Option Value)} {oc_check_many_and_total kV_check_many_and_total dc_check_many_and_total pm_check_many_and_total cd_check_many_and_total ct_check_many_and_total : Value} {f_check_many_and_total : Addr}
    (a_check_many_and_total : PySem.W.nsIn K mainGlobals "check_many_and_total" = some (some (.ref f_check_many_and_total)))
    (l_check_many_and_total : K.lookup f_check_many_and_total = some ⟨oc_check_many_and_total, od_check_many_and_total, .func (PySem.W.fnOf "check_many_and_total" "check_many_and_total" (defArgs s_check_many_and_total) (defBody s_check_many_and_total) (defScope s_check_many_and_total) .none kV_check_many_and_total dc_check_many_and_total pm_check_many_and_total an_check_many_and_total cd_check_many_and_total ct_check_many_and_total), sl_check_many_and_total⟩)
    (c_check_many_and_total : PySem.W.codeIn K cd_check_many_and_total "check_many_and_total" = true) (k_check_many_and_total : PySem.W.keepIn K (.ref f_check_many_and_total) = true)
    {od_hardest an_hardest : Option Addr} {sl_hardest : Array (Option Value)} {oc_hardest kV_hardest dc_hardest pm_hardest cd_hardest ct_hardest : Value} {f_hardest : Addr}
    (a_hardest : PySem.W.nsIn K mainGlobals "hardest" = some (some (.ref f_hardest)))
    (l_hardest : K.lookup f_hardest = some ⟨oc_hardest, od_hardest, .func (PySem.W.fnOf "hardest" "hardest" (defArgs s_hardest) (defBody s_hardest) (defScope s_hardest) .none kV_hardest dc_hardest pm_hardest an_hardest cd_hardest ct_hardest), sl_hardest⟩)
    (c_hardest : PySem.W.codeIn K cd_hardest "hardest" = true) (k_hardest : PySem.W.keepIn K (.ref f_hardest) = true)
    {od_returning an_returning : Option Addr} {sl_returning : Array (Option Value)} {oc_returning kV_returning dc_returning pm_returning cd_returning ct_returning : Value} {f_returning : Addr}
    (a_returning : PySem.W.nsIn K mainGlobals "returning" = some (some (.ref f_returning)))
    (l_returning : K.lookup f_returning = some ⟨oc_returning, od_returning, .func (PySem.W.fnOf "returning" "returning" (defArgs s_returning) (defBody s_returning) (defScope s_returning) .none kV_returning dc_returning pm_returning an_returning cd_returning ct_returning), sl_returning⟩)
    (c_returning : PySem.W.codeIn K cd_returning "returning" = true) (k_returning : PySem.W.keepIn K (.ref f_returning) = true)
    {od_l_mix an_l_mix : Option Addr} {sl_l_mix : Array (Option Value)} {oc_l_mix kV_l_mix dc_l_mix pm_l_mix cd_l_mix ct_l_mix : Value} {f_l_mix : Addr}
    (a_l_mix : PySem.W.nsIn K mainGlobals "_law_mix" = some (some (.ref f_l_mix)))
    (l_l_mix : K.lookup f_l_mix = some ⟨oc_l_mix, od_l_mix, .func (PySem.W.fnOf "_law_mix" "_law_mix" (defArgs s_l_mix) (defBody s_l_mix) (defScope s_l_mix) .none kV_l_mix dc_l_mix pm_l_mix an_l_mix cd_l_mix ct_l_mix), sl_l_mix⟩)
    (c_l_mix : PySem.W.codeIn K cd_l_mix "_law_mix" = true) (k_l_mix : PySem.W.keepIn K (.ref f_l_mix) = true)
    {od_l_next an_l_next : Option Addr} {sl_l_next : Array (Option Value)} {oc_l_next kV_l_next dc_l_next pm_l_next cd_l_next ct_l_next : Value} {f_l_next : Addr}
    (a_l_next : PySem.W.nsIn K mainGlobals "_law_next" = some (some (.ref f_l_next)))
    (l_l_next : K.lookup f_l_next = some ⟨oc_l_next, od_l_next, .func (PySem.W.fnOf "_law_next" "_law_next" (defArgs s_l_next) (defBody s_l_next) (defScope s_l_next) .none kV_l_next dc_l_next pm_l_next an_l_next cd_l_next ct_l_next), sl_l_next⟩)
    (c_l_next : PySem.W.codeIn K cd_l_next "_law_next" = true) (k_l_next : PySem.W.keepIn K (.ref f_l_next) = true)
    {od_l_can an_l_can : Option Addr} {sl_l_can : Array (Option Value)} {oc_l_can kV_l_can dc_l_can pm_l_can cd_l_can ct_l_can : Value} {f_l_can : Addr}
    (a_l_can : PySem.W.nsIn K mainGlobals "_law_can" = some (some (.ref f_l_can)))
    (l_l_can : K.lookup f_l_can = some ⟨oc_l_can, od_l_can, .func (PySem.W.fnOf "_law_can" "_law_can" (defArgs s_l_can) (defBody s_l_can) (defScope s_l_can) .none kV_l_can dc_l_can pm_l_can an_l_can cd_l_can ct_l_can), sl_l_can⟩)
    (c_l_can : PySem.W.codeIn K cd_l_can "_law_can" = true) (k_l_can : PySem.W.keepIn K (.ref f_l_can) = true)
    {od_l_behind an_l_behind : Option Addr} {sl_l_behind : Array (Option Value)} {oc_l_behind kV_l_behind dc_l_behind pm_l_behind cd_l_behind ct_l_behind : Value} {f_l_behind : Addr}
    (a_l_behind : PySem.W.nsIn K mainGlobals "_law_behind" = some (some (.ref f_l_behind)))
    (l_l_behind : K.lookup f_l_behind = some ⟨oc_l_behind, od_l_behind, .func (PySem.W.fnOf "_law_behind" "_law_behind" (defArgs s_l_behind) (defBody s_l_behind) (defScope s_l_behind) .none kV_l_behind dc_l_behind pm_l_behind an_l_behind cd_l_behind ct_l_behind), sl_l_behind⟩)
    (c_l_behind : PySem.W.codeIn K cd_l_behind "_law_behind" = true) (k_l_behind : PySem.W.keepIn K (.ref f_l_behind) = true)
    {od_l_pairs an_l_pairs : Option Addr} {sl_l_pairs : Array (Option Value)} {oc_l_pairs kV_l_pairs dc_l_pairs pm_l_pairs cd_l_pairs ct_l_pairs : Value} {f_l_pairs : Addr}
    (a_l_pairs : PySem.W.nsIn K mainGlobals "_law_pairs" = some (some (.ref f_l_pairs)))
    (l_l_pairs : K.lookup f_l_pairs = some ⟨oc_l_pairs, od_l_pairs, .func (PySem.W.fnOf "_law_pairs" "_law_pairs" (defArgs s_l_pairs) (defBody s_l_pairs) (defScope s_l_pairs) .none kV_l_pairs dc_l_pairs pm_l_pairs an_l_pairs cd_l_pairs ct_l_pairs), sl_l_pairs⟩)
    (c_l_pairs : PySem.W.codeIn K cd_l_pairs "_law_pairs" = true) (k_l_pairs : PySem.W.keepIn K (.ref f_l_pairs) = true)
    {od_l_every an_l_every : Option Addr} {sl_l_every : Array (Option Value)} {oc_l_every kV_l_every dc_l_every pm_l_every cd_l_every ct_l_every : Value} {f_l_every : Addr}
    (a_l_every : PySem.W.nsIn K mainGlobals "_law_every" = some (some (.ref f_l_every)))
    (l_l_every : K.lookup f_l_every = some ⟨oc_l_every, od_l_every, .func (PySem.W.fnOf "_law_every" "_law_every" (defArgs s_l_every) (defBody s_l_every) (defScope s_l_every) .none kV_l_every dc_l_every pm_l_every an_l_every cd_l_every ct_l_every), sl_l_every⟩)
    (c_l_every : PySem.W.codeIn K cd_l_every "_law_every" = true) (k_l_every : PySem.W.keepIn K (.ref f_l_every) = true)
    {od_l_next_heaps an_l_next_heaps : Option Addr} {sl_l_next_heaps : Array (Option Value)} {oc_l_next_heaps kV_l_next_heaps dc_l_next_heaps pm_l_next_heaps cd_l_next_heaps ct_l_next_heaps : Value} {f_l_next_heaps : Addr}
    (a_l_next_heaps : PySem.W.nsIn K mainGlobals "_law_next_heaps" = some (some (.ref f_l_next_heaps)))
    (l_l_next_heaps : K.lookup f_l_next_heaps = some ⟨oc_l_next_heaps, od_l_next_heaps, .func (PySem.W.fnOf "_law_next_heaps" "_law_next_heaps" (defArgs s_l_next_heaps) (defBody s_l_next_heaps) (defScope s_l_next_heaps) .none kV_l_next_heaps dc_l_next_heaps pm_l_next_heaps an_l_next_heaps cd_l_next_heaps ct_l_next_heaps), sl_l_next_heaps⟩)
    (c_l_next_heaps : PySem.W.codeIn K cd_l_next_heaps "_law_next_heaps" = true) (k_l_next_heaps : PySem.W.keepIn K (.ref f_l_next_heaps) = true)
    {od_l_walk an_l_walk : Option Addr} {sl_l_walk : Array (Option Value)} {oc_l_walk kV_l_walk dc_l_walk pm_l_walk cd_l_walk ct_l_walk : Value} {f_l_walk : Addr}
    (a_l_walk : PySem.W.nsIn K mainGlobals "_law_walk" = some (some (.ref f_l_walk)))
    (l_l_walk : K.lookup f_l_walk = some ⟨oc_l_walk, od_l_walk, .func (PySem.W.fnOf "_law_walk" "_law_walk" (defArgs s_l_walk) (defBody s_l_walk) (defScope s_l_walk) .none kV_l_walk dc_l_walk pm_l_walk an_l_walk cd_l_walk ct_l_walk), sl_l_walk⟩)
    (c_l_walk : PySem.W.codeIn K cd_l_walk "_law_walk" = true) (k_l_walk : PySem.W.keepIn K (.ref f_l_walk) = true)
    {od_law an_law : Option Addr} {sl_law : Array (Option Value)} {oc_law kV_law dc_law pm_law cd_law ct_law : Value} {f_law : Addr}
    (a_law : PySem.W.nsIn K mainGlobals "law" = some (some (.ref f_law)))
    (l_law : K.lookup f_law = some ⟨oc_law, od_law, .func (PySem.W.fnOf "law" "law" (defArgs s_law) (defBody s_law) (defScope s_law) .none kV_law dc_law pm_law an_law cd_law ct_law), sl_law⟩)
    (c_law : PySem.W.codeIn K cd_law "law" = true) (k_law : PySem.W.keepIn K (.ref f_law) = true)
    (z_int : PySem.W.nsIn K mainGlobals "int" = some none)
    (z_bool : PySem.W.nsIn K mainGlobals "bool" = some none)
    (z_list : PySem.W.nsIn K mainGlobals "list" = some none)
    (z_len : PySem.W.nsIn K mainGlobals "len" = some none)
    (z_tuple : PySem.W.nsIn K mainGlobals "tuple" = some none)
    (z_isinstance : PySem.W.nsIn K mainGlobals "isinstance" = some none)
    (z_all : PySem.W.nsIn K mainGlobals "all" = some none)
    (z_any : PySem.W.nsIn K mainGlobals "any" = some none)
    (z_sum : PySem.W.nsIn K mainGlobals "sum" = some none)
    (z_enumerate : PySem.W.nsIn K mainGlobals "enumerate" = some none)
    (z_range : PySem.W.nsIn K mainGlobals "range" = some none)
    (z_sorted : PySem.W.nsIn K mainGlobals "sorted" = some none)
    (z_set : PySem.W.nsIn K mainGlobals "set" = some none)
    (z_max : PySem.W.nsIn K mainGlobals "max" = some none)
    (z_min : PySem.W.nsIn K mainGlobals "min" = some none)
    (z_str : PySem.W.nsIn K mainGlobals "str" = some none)
    {tk_FEWEST_HEAPS : Tok} (w_FEWEST_HEAPS : PySem.W.nsIn K mainGlobals "FEWEST_HEAPS" = some (some (.int 2 tk_FEWEST_HEAPS)))
    {tk_MOST_HEAPS : Tok} (w_MOST_HEAPS : PySem.W.nsIn K mainGlobals "MOST_HEAPS" = some (some (.int 6 tk_MOST_HEAPS)))
    {tk_GREATEST : Tok} (w_GREATEST : PySem.W.nsIn K mainGlobals "GREATEST" = some (some (.int 1000000000000000000000000000000 tk_GREATEST)))
    {tk_MOST_SMALL_HEAPS : Tok} (w_MOST_SMALL_HEAPS : PySem.W.nsIn K mainGlobals "MOST_SMALL_HEAPS" = some (some (.int 4 tk_MOST_SMALL_HEAPS)))
    {tk_GREATEST_SMALL_SUM : Tok} (w_GREATEST_SMALL_SUM : PySem.W.nsIn K mainGlobals "GREATEST_SMALL_SUM" = some (some (.int 40 tk_GREATEST_SMALL_SUM)))
    {tk_LEAST_MANY : Tok} (w_LEAST_MANY : PySem.W.nsIn K mainGlobals "LEAST_MANY" = some (some (.int 3 tk_LEAST_MANY)))
    {tk_GREATEST_MANY : Tok} (w_GREATEST_MANY : PySem.W.nsIn K mainGlobals "GREATEST_MANY" = some (some (.int 4 tk_GREATEST_MANY)))
    {tk_GREATEST_TOTAL : Tok} (w_GREATEST_TOTAL : PySem.W.nsIn K mainGlobals "GREATEST_TOTAL" = some (some (.int 40 tk_GREATEST_TOTAL)))
    : ∃ fd : FuncData, (∀ (s : Shared) (v : Value), BindsTo s fd ⟨[v], []⟩ [("_law_script", v)]) ∧ ∀ base : Heap, K.In base → base.Ns mainGlobals mg → FnOk l.prog w K mg base CX0 9 fa fd ["_law_script"] (spLaw K) := by
  have e := hfa.symm.trans (PySem.W.mg_of X G a_law)
  cases e
  have F_is_integer := fun_mk (st := s_is_integer) l_is_integer c_is_integer k_is_integer
  have b_is_integer := F_is_integer.binds (ps := ["value", "least", "greatest"]) fun _ _ _ _ _ _ us hl => match us, hl with | [_, _, _], _ => rfl
  have F_is_heaps := fun_mk (st := s_is_heaps) l_is_heaps c_is_heaps k_is_heaps
  have b_is_heaps := F_is_heaps.binds (ps := ["value"]) fun _ _ _ _ _ _ us hl => match us, hl with | [_], _ => rfl
  have F_check_heaps := fun_mk (st := s_check_heaps) l_check_heaps c_check_heaps k_check_heaps
  have b_check_heaps := F_check_heaps.binds (ps := ["heaps"]) fun _ _ _ _ _ _ us hl => match us, hl with | [_], _ => rfl
  have F_pairs_of := fun_mk (st := s_pairs_of) l_pairs_of c_pairs_of k_pairs_of
  have b_pairs_of := F_pairs_of.binds (ps := ["many"]) fun _ _ _ _ _ _ us hl => match us, hl with | [_], _ => rfl
  have F_can_be_made := fun_mk (st := s_can_be_made) l_can_be_made c_can_be_made k_can_be_made
  have b_can_be_made := F_can_be_made.binds (ps := ["heaps", "step"]) fun _ _ _ _ _ _ us hl => match us, hl with | [_, _], _ => rfl
  have F_steps_from := fun_mk (st := s_steps_from) l_steps_from c_steps_from k_steps_from
  have b_steps_from := F_steps_from.binds (ps := ["heaps"]) fun _ _ _ _ _ _ us hl => match us, hl with | [_], _ => rfl
  have F_shifted := fun_mk (st := s_shifted) l_shifted c_shifted k_shifted
  have b_shifted := F_shifted.binds (ps := ["heaps", "step", "many"]) fun _ _ _ _ _ _ us hl => match us, hl with | [_, _, _], _ => rfl
  have F_behind := fun_mk (st := s_behind) l_behind c_behind k_behind
  have b_behind := F_behind.binds (ps := ["heaps", "step"]) fun _ _ _ _ _ _ us hl => match us, hl with | [_, _], _ => rfl
  have F_all_behind := fun_mk (st := s_all_behind) l_all_behind c_all_behind k_all_behind
  have b_all_behind := F_all_behind.binds (ps := ["heaps"]) fun _ _ _ _ _ _ us hl => match us, hl with | [_], _ => rfl
  have F_origins := fun_mk (st := s_origins) l_origins c_origins k_origins
  have b_origins := F_origins.binds (ps := ["front"]) fun _ _ _ _ _ _ us hl => match us, hl with | [_], _ => rfl
  have F_fronts := fun_mk (st := s_fronts) l_fronts c_fronts k_fronts
  have b_fronts := F_fronts.binds (ps := ["heaps"]) fun _ _ _ _ _ _ us hl => match us, hl with | [_], _ => rfl
  have F_check_small := fun_mk (st := s_check_small) l_check_small c_check_small k_check_small
  have b_check_small := F_check_small.binds (ps := ["heaps"]) fun _ _ _ _ _ _ us hl => match us, hl with | [_], _ => rfl
  have F_fewest := fun_mk (st := s_fewest) l_fewest c_fewest k_fewest
  have b_fewest := F_fewest.binds (ps := ["heaps"]) fun _ _ _ _ _ _ us hl => match us, hl with | [_], _ => rfl
  have F_ascending_heaps := fun_mk (st := s_ascending_heaps) l_ascending_heaps c_ascending_heaps k_ascending_heaps
  have b_ascending_heaps := F_ascending_heaps.binds (ps := ["many", "total", "least"]) fun _ _ _ _ _ _ us hl => match us, hl with | [_, _, _], _ => rfl
  have F_ascending_behind := fun_mk (st := s_ascending_behind) l_ascending_behind c_ascending_behind k_ascending_behind
  have b_ascending_behind := F_ascending_behind.binds (ps := ["heaps"]) fun _ _ _ _ _ _ us hl => match us, hl with | [_], _ => rfl
  have F_leads_back := fun_mk (st := s_leads_back) l_leads_back c_leads_back k_leads_back
  have b_leads_back := F_leads_back.binds (ps := ["heaps", "onward"]) fun _ _ _ _ _ _ us hl => match us, hl with | [_, _], _ => rfl
  have F_check_many_and_total := fun_mk (st := s_check_many_and_total) l_check_many_and_total c_check_many_and_total k_check_many_and_total
  have b_check_many_and_total := F_check_many_and_total.binds (ps := ["many", "total"]) fun _ _ _ _ _ _ us hl => match us, hl with | [_, _], _ => rfl
  have F_hardest := fun_mk (st := s_hardest) l_hardest c_hardest k_hardest
  have b_hardest := F_hardest.binds (ps := ["many", "total"]) fun _ _ _ _ _ _ us hl => match us, hl with | [_, _], _ => rfl
  have F_returning := fun_mk (st := s_returning) l_returning c_returning k_returning
  have b_returning := F_returning.binds (ps := ["many", "total"]) fun _ _ _ _ _ _ us hl => match us, hl with | [_, _], _ => rfl
  have F_l_mix := fun_mk (st := s_l_mix) l_l_mix c_l_mix k_l_mix
  have b_l_mix := F_l_mix.binds (ps := ["_law_script", "_law_seed"]) fun _ _ _ _ _ _ us hl => match us, hl with | [_, _], _ => rfl
  have F_l_next := fun_mk (st := s_l_next) l_l_next c_l_next k_l_next
  have b_l_next := F_l_next.binds (ps := ["_law_h", "_law_bound"]) fun _ _ _ _ _ _ us hl => match us, hl with | [_, _], _ => rfl
  have F_l_can := fun_mk (st := s_l_can) l_l_can c_l_can k_l_can
  have b_l_can := F_l_can.binds (ps := ["_law_heaps_here", "_law_step"]) fun _ _ _ _ _ _ us hl => match us, hl with | [_, _], _ => rfl
  have F_l_behind := fun_mk (st := s_l_behind) l_l_behind c_l_behind k_l_behind
  have b_l_behind := F_l_behind.binds (ps := ["_law_heaps_here", "_law_step"]) fun _ _ _ _ _ _ us hl => match us, hl with | [_, _], _ => rfl
  have F_l_pairs := fun_mk (st := s_l_pairs) l_l_pairs c_l_pairs k_l_pairs
  have b_l_pairs := F_l_pairs.binds (ps := ["_law_size"]) fun _ _ _ _ _ _ us hl => match us, hl with | [_], _ => rfl
  have F_l_every := fun_mk (st := s_l_every) l_l_every c_l_every k_l_every
  have b_l_every := F_l_every.binds (ps := ["_law_many", "_law_total", "_law_least"]) fun _ _ _ _ _ _ us hl => match us, hl with | [_, _, _], _ => rfl
  have F_l_next_heaps := fun_mk (st := s_l_next_heaps) l_l_next_heaps c_l_next_heaps k_l_next_heaps
  have b_l_next_heaps := F_l_next_heaps.binds (ps := ["_law_heaps_here"]) fun _ _ _ _ _ _ us hl => match us, hl with | [_], _ => rfl
  have F_l_walk := fun_mk (st := s_l_walk) l_l_walk c_l_walk k_l_walk
  have b_l_walk := F_l_walk.binds (ps := ["_law_heaps_here"]) fun _ _ _ _ _ _ us hl => match us, hl with | [_], _ => rfl
  have F_law := fun_mk (st := s_law) l_law c_law k_law
  have b_law := F_law.binds (ps := ["_law_script"]) fun _ _ _ _ _ _ us hl => match us, hl with | [_], _ => rfl
  have Z : Tz mg := ⟨PySem.W.mg_none_of X G z_int, PySem.W.mg_none_of X G z_bool, PySem.W.mg_none_of X G z_list, PySem.W.mg_none_of X G z_len, PySem.W.mg_none_of X G z_tuple, PySem.W.mg_none_of X G z_isinstance, PySem.W.mg_none_of X G z_all, PySem.W.mg_none_of X G z_any, PySem.W.mg_none_of X G z_sum, PySem.W.mg_none_of X G z_enumerate, PySem.W.mg_none_of X G z_range, PySem.W.mg_none_of X G z_sorted, PySem.W.mg_none_of X G z_set, PySem.W.mg_none_of X G z_max, PySem.W.mg_none_of X G z_min, PySem.W.mg_none_of X G z_str⟩
  have T : Tp mg := ⟨Z, ⟨_, PySem.W.mg_of X G w_FEWEST_HEAPS⟩, ⟨_, PySem.W.mg_of X G w_MOST_HEAPS⟩, ⟨_, PySem.W.mg_of X G w_GREATEST⟩⟩
  have U : Tx K mg := ⟨Z.int, Z.list, Z.max, Z.len, Z.tuple, Z.range⟩
  have B_BadHeaps : NilX l.prog K mg "BadHeaps" A_BadHeaps := ⟨PySem.W.mg_of X G x_BadHeaps, kC_BadHeaps, eC_BadHeaps, tC_BadHeaps, ⟨HE, f_HI, sup_mk tI lI cI lcda hvs hfile lcc hD z_super thr topN, ⟨⟨nm_BadHeaps, q_BadHeaps, N_BadHeaps, bs_BadHeaps, _, sn_BadHeaps, sub_BadHeaps, ab_BadHeaps, col_BadHeaps, dd_BadHeaps, m0_BadHeaps, m1_BadHeaps, m2_BadHeaps, m3_BadHeaps, m5_BadHeaps, xL_BadHeaps, rfl⟩, iHI_BadHeaps, supI_BadHeaps, mroI_BadHeaps, veI_BadHeaps, xinI_BadHeaps⟩⟩⟩
  have te_BadHeaps := exm_self eC_BadHeaps iC_BadHeaps tC_BadHeaps sC_BadHeaps
  have B_TooGreat : NilX l.prog K mg "TooGreat" A_TooGreat := ⟨PySem.W.mg_of X G x_TooGreat, kC_TooGreat, eC_TooGreat, tC_TooGreat, ⟨HE, f_HI, sup_mk tI lI cI lcda hvs hfile lcc hD z_super thr topN, ⟨⟨nm_TooGreat, q_TooGreat, N_TooGreat, bs_TooGreat, _, sn_TooGreat, sub_TooGreat, ab_TooGreat, col_TooGreat, dd_TooGreat, m0_TooGreat, m1_TooGreat, m2_TooGreat, m3_TooGreat, m5_TooGreat, xL_TooGreat, rfl⟩, iHI_TooGreat, supI_TooGreat, mroI_TooGreat, veI_TooGreat, xinI_TooGreat⟩⟩⟩
  have te_TooGreat := exm_self eC_TooGreat iC_TooGreat tC_TooGreat sC_TooGreat
  have B_BadMany : NilX l.prog K mg "BadMany" A_BadMany := ⟨PySem.W.mg_of X G x_BadMany, kC_BadMany, eC_BadMany, tC_BadMany, ⟨HE, f_HI, sup_mk tI lI cI lcda hvs hfile lcc hD z_super thr topN, ⟨⟨nm_BadMany, q_BadMany, N_BadMany, bs_BadMany, _, sn_BadMany, sub_BadMany, ab_BadMany, col_BadMany, dd_BadMany, m0_BadMany, m1_BadMany, m2_BadMany, m3_BadMany, m5_BadMany, xL_BadMany, rfl⟩, iHI_BadMany, supI_BadMany, mroI_BadMany, veI_BadMany, xinI_BadMany⟩⟩⟩
  have te_BadMany := exm_self eC_BadMany iC_BadMany tC_BadMany sC_BadMany
  have B_BadTotal : NilX l.prog K mg "BadTotal" A_BadTotal := ⟨PySem.W.mg_of X G x_BadTotal, kC_BadTotal, eC_BadTotal, tC_BadTotal, ⟨HE, f_HI, sup_mk tI lI cI lcda hvs hfile lcc hD z_super thr topN, ⟨⟨nm_BadTotal, q_BadTotal, N_BadTotal, bs_BadTotal, _, sn_BadTotal, sub_BadTotal, ab_BadTotal, col_BadTotal, dd_BadTotal, m0_BadTotal, m1_BadTotal, m2_BadTotal, m3_BadTotal, m5_BadTotal, xL_BadTotal, rfl⟩, iHI_BadTotal, supI_BadTotal, mroI_BadTotal, veI_BadTotal, xinI_BadTotal⟩⟩⟩
  have te_BadTotal := exm_self eC_BadTotal iC_BadTotal tC_BadTotal sC_BadTotal
  have TS : Tsm mg := ⟨Z, ⟨_, PySem.W.mg_of X G w_MOST_SMALL_HEAPS⟩, ⟨_, PySem.W.mg_of X G w_GREATEST_SMALL_SUM⟩⟩
  have TH : Thd mg := ⟨Z, ⟨_, PySem.W.mg_of X G w_LEAST_MANY⟩, ⟨_, PySem.W.mg_of X G w_GREATEST_MANY⟩⟩
  refine ⟨PySem.W.fnOf "law" "law" (defArgs s_law) (defBody s_law) (defScope s_law) .none kV_law dc_law pm_law an_law cd_law ct_law, fun s v => .of_eq rfl, fun base KB GB => ?_⟩
  have C_is_integer : Cal l.prog w K mg base CX0 1 "is_integer" ["value", "least", "greatest"] (spIsInt K) := ⟨_, _, PySem.W.mg_of X G a_is_integer, k_is_integer, b_is_integer, ok_is_integer F_is_integer T⟩
  have C_is_heaps : Cal l.prog w K mg base CX0 2 "is_heaps" ["value"] (spIsHeaps K) := ⟨_, _, PySem.W.mg_of X G a_is_heaps, k_is_heaps, b_is_heaps, ok_is_heaps F_is_heaps T C_is_integer⟩
  have C_check_heaps : Cal l.prog w K mg base (L2.CX l.prog w) 3 "check_heaps" ["heaps"] (spChkHeapsD K A_BadHeaps) := ⟨_, _, PySem.W.mg_of X G a_check_heaps, k_check_heaps, b_check_heaps, ok_check_heaps F_check_heaps T B_BadHeaps C_is_heaps⟩
  have C_pairs_of : Cal l.prog w K mg base CX0 1 "pairs_of" ["many"] (spPairs K) := ⟨_, _, PySem.W.mg_of X G a_pairs_of, k_pairs_of, b_pairs_of, ok_pairs_of F_pairs_of T⟩
  have C_can_be_made : Cal l.prog w K mg base CX0 1 "can_be_made" ["heaps", "step"] (spCan K) := ⟨_, _, PySem.W.mg_of X G a_can_be_made, k_can_be_made, b_can_be_made, ok_can_be_made F_can_be_made⟩
  have C_steps_from : Cal l.prog w K mg base CX0 2 "steps_from" ["heaps"] (spSteps K) := ⟨_, _, PySem.W.mg_of X G a_steps_from, k_steps_from, b_steps_from, ok_steps_from F_steps_from T C_pairs_of C_can_be_made⟩
  have C_shifted : Cal l.prog w K mg base CX0 1 "shifted" ["heaps", "step", "many"] (spShiftedZ K) := ⟨_, _, PySem.W.mg_of X G a_shifted, k_shifted, b_shifted, ok_shifted F_shifted T⟩
  have C_behind : Cal l.prog w K mg base CX0 2 "behind" ["heaps", "step"] (spBehindZ K) := ⟨_, _, PySem.W.mg_of X G a_behind, k_behind, b_behind, ok_behind F_behind C_shifted⟩
  have C_behindS : Cal l.prog w K mg base CX0 2 "behind" ["heaps", "step"] (spBehind K) := Cal.thaw C_behind fun _ _ _ _ => thaw_behind
  have C_all_behind : Cal l.prog w K mg base CX0 3 "all_behind" ["heaps"] (spAllBehind K) := ⟨_, _, PySem.W.mg_of X G a_all_behind, k_all_behind, b_all_behind, ok_all_behind F_all_behind C_steps_from C_behindS⟩
  have C_origins : Cal l.prog w K mg base CX0 3 "origins" ["front"] (spOrigins K) := ⟨_, _, PySem.W.mg_of X G a_origins, k_origins, b_origins, ok_origins F_origins C_steps_from C_behindS⟩
  have C_fronts : CalG l.prog w K mg base 4 "fronts" ["heaps"] (spFronts K) := ⟨⟨_, _, PySem.W.mg_of X G a_fronts, k_fronts, b_fronts, ok_fronts F_fronts C_origins⟩⟩
  have C_check_small : Cal l.prog w K mg base (L2.CX l.prog w) 4 "check_small" ["heaps"] (spChkSmall K A_BadHeaps A_TooGreat) := ⟨_, _, PySem.W.mg_of X G a_check_small, k_check_small, b_check_small, ok_check_small F_check_small TS B_TooGreat C_check_heaps⟩
  have C_fewest : Cal l.prog w K mg base (L2.CX l.prog w) 7 "fewest" ["heaps"] (spFewest K A_BadHeaps A_TooGreat) := ⟨_, _, PySem.W.mg_of X G a_fewest, k_fewest, b_fewest, ok_fewest F_fewest TS C_check_small C_fronts⟩
  have C_fewestG : Cal l.prog w K mg base CX0 7 "fewest" ["heaps"] (spFewestC K) := Cal.calm C_fewest fun _ _ _ _ => fewest_good
  have C_asc0 : Cal l.prog w K mg base CX0 1 "ascending_heaps" ["many", "total", "least"] (spAsc K 0) := ⟨_, _, PySem.W.mg_of X G a_ascending_heaps, k_ascending_heaps, b_ascending_heaps, ok_ascending_0 F_ascending_heaps⟩
  have C_asc1 : Cal l.prog w K mg base CX0 2 "ascending_heaps" ["many", "total", "least"] (spAsc K 1) := ⟨_, _, PySem.W.mg_of X G a_ascending_heaps, k_ascending_heaps, b_ascending_heaps, ok_ascending_heaps F_ascending_heaps Z C_asc0⟩
  have C_asc2 : Cal l.prog w K mg base CX0 3 "ascending_heaps" ["many", "total", "least"] (spAsc K 2) := ⟨_, _, PySem.W.mg_of X G a_ascending_heaps, k_ascending_heaps, b_ascending_heaps, ok_ascending_heaps F_ascending_heaps Z C_asc1⟩
  have C_asc3 : Cal l.prog w K mg base CX0 4 "ascending_heaps" ["many", "total", "least"] (spAsc K 3) := ⟨_, _, PySem.W.mg_of X G a_ascending_heaps, k_ascending_heaps, b_ascending_heaps, ok_ascending_heaps F_ascending_heaps Z C_asc2⟩
  have C_ascending_heaps : Cal l.prog w K mg base CX0 5 "ascending_heaps" ["many", "total", "least"] (spAsc K 4) := ⟨_, _, PySem.W.mg_of X G a_ascending_heaps, k_ascending_heaps, b_ascending_heaps, ok_ascending_heaps F_ascending_heaps Z C_asc3⟩
  have C_ascending_behind : Cal l.prog w K mg base CX0 4 "ascending_behind" ["heaps"] (spAscB K) := ⟨_, _, PySem.W.mg_of X G a_ascending_behind, k_ascending_behind, b_ascending_behind, ok_ascending_behind F_ascending_behind Z C_all_behind⟩
  have C_leads_back : Cal l.prog w K mg base CX0 1 "leads_back" ["heaps", "onward"] (spLeads K) := ⟨_, _, PySem.W.mg_of X G a_leads_back, k_leads_back, b_leads_back, ok_leads_back F_leads_back⟩
  have C_check_many_and_total : Cal l.prog w K mg base (L2.CX l.prog w) 3 "check_many_and_total" ["many", "total"] (spChkMT K A_BadMany A_BadTotal) := ⟨_, _, PySem.W.mg_of X G a_check_many_and_total, k_check_many_and_total, b_check_many_and_total, ok_check_many_and_total F_check_many_and_total TH ⟨_, PySem.W.mg_of X G w_GREATEST_TOTAL⟩ B_BadMany B_BadTotal C_is_integer⟩
  have C_hardest : Cal l.prog w K mg base (L2.CX l.prog w) 8 "hardest" ["many", "total"] (spHardest K A_BadMany A_BadTotal) := ⟨_, _, PySem.W.mg_of X G a_hardest, k_hardest, b_hardest, ok_hardest F_hardest Z C_check_many_and_total C_ascending_heaps C_fewestG⟩
  have C_hardestU : Cal l.prog w K mg base CX0 8 "hardest" ["many", "total"] (spHardU) := Cal.calm C_hardest fun _ _ _ _ => hardest_u
  have C_returning : Cal l.prog w K mg base (L2.CX l.prog w) 6 "returning" ["many", "total"] (spReturning K A_BadMany A_BadTotal) := ⟨_, _, PySem.W.mg_of X G a_returning, k_returning, b_returning, ok_returning F_returning C_check_many_and_total C_ascending_heaps C_ascending_behind C_leads_back⟩
  have C_returningU : Cal l.prog w K mg base CX0 6 "returning" ["many", "total"] (spRetU) := Cal.calm C_returning fun _ _ _ _ => returning_u
  have C_l_mix : Cal l.prog w K mg base CX0 1 "_law_mix" ["_law_script", "_law_seed"] (spMix K) := ⟨_, _, PySem.W.mg_of X G a_l_mix, k_l_mix, b_l_mix, ok_mix F_l_mix U⟩
  have C_l_next : Cal l.prog w K mg base CX0 1 "_law_next" ["_law_h", "_law_bound"] (spNext) := ⟨_, _, PySem.W.mg_of X G a_l_next, k_l_next, b_l_next, ok_next F_l_next U⟩
  have C_l_can : Cal l.prog w K mg base CX0 1 "_law_can" ["_law_heaps_here", "_law_step"] (spCan K) := ⟨_, _, PySem.W.mg_of X G a_l_can, k_l_can, b_l_can, ok_l_can F_l_can⟩
  have C_l_behind : Cal l.prog w K mg base CX0 1 "_law_behind" ["_law_heaps_here", "_law_step"] (spBehind K) := ⟨_, _, PySem.W.mg_of X G a_l_behind, k_l_behind, b_l_behind, ok_l_behind F_l_behind U⟩
  have C_l_pairs : Cal l.prog w K mg base CX0 1 "_law_pairs" ["_law_size"] (spPairs K) := ⟨_, _, PySem.W.mg_of X G a_l_pairs, k_l_pairs, b_l_pairs, ok_l_pairs F_l_pairs U⟩
  have C_evy0 : Cal l.prog w K mg base CX0 1 "_law_every" ["_law_many", "_law_total", "_law_least"] (spEvery K 0) := ⟨_, _, PySem.W.mg_of X G a_l_every, k_l_every, b_l_every, ok_l_every_0 F_l_every⟩
  have C_evy1 : Cal l.prog w K mg base CX0 2 "_law_every" ["_law_many", "_law_total", "_law_least"] (spEvery K 1) := ⟨_, _, PySem.W.mg_of X G a_l_every, k_l_every, b_l_every, ok_l_every F_l_every Z C_evy0⟩
  have C_evy2 : Cal l.prog w K mg base CX0 3 "_law_every" ["_law_many", "_law_total", "_law_least"] (spEvery K 2) := ⟨_, _, PySem.W.mg_of X G a_l_every, k_l_every, b_l_every, ok_l_every F_l_every Z C_evy1⟩
  have C_evy3 : Cal l.prog w K mg base CX0 4 "_law_every" ["_law_many", "_law_total", "_law_least"] (spEvery K 3) := ⟨_, _, PySem.W.mg_of X G a_l_every, k_l_every, b_l_every, ok_l_every F_l_every Z C_evy2⟩
  have C_l_every : Cal l.prog w K mg base CX0 5 "_law_every" ["_law_many", "_law_total", "_law_least"] (spEvery K 4) := ⟨_, _, PySem.W.mg_of X G a_l_every, k_l_every, b_l_every, ok_l_every F_l_every Z C_evy3⟩
  have C_l_next_heaps : Cal l.prog w K mg base CX0 2 "_law_next_heaps" ["_law_heaps_here"] (spNxt K) := ⟨_, _, PySem.W.mg_of X G a_l_next_heaps, k_l_next_heaps, b_l_next_heaps, ok_l_next_heaps F_l_next_heaps Z C_l_pairs C_l_can C_l_behind⟩
  have C_l_walk : Cal l.prog w K mg base CX0 3 "_law_walk" ["_law_heaps_here"] (spWalk K) := ⟨_, _, PySem.W.mg_of X G a_l_walk, k_l_walk, b_l_walk, ok_l_walk F_l_walk C_l_next_heaps⟩
  exact ok_law F_law Z C_l_mix C_l_next C_l_every C_l_walk C_hardestU C_returningU
theorem walk {l : PySem.W.OpenLaw} {q : Program} {loose : List Str} {XP : (Str → Option Value) → Heap → Prop} {YP : World → Heap → Prop} {d : DefRec} {K : Params → PySem.W.Frag} (hn : l.most = some 63) (hdf : d.params.defaults = [])
    (hY : ∀ (w : World) (h : Heap), YP w h → (K w.params).In h)
    (F : ∀ (w : World) (mg : Str → Option Value) (fa : Addr) (h : Heap), (K w.params).In h → h.Ns mainGlobals mg → mg d.name = some (.ref fa) →
      ∃ fd : FuncData, (∀ (s : Shared) (u : Value), BindsTo s fd ⟨[u], []⟩ [("_law_script", u)]) ∧ ∀ base : Heap, (K w.params).In base → base.Ns mainGlobals mg → FnOk l.prog w (K w.params) mg base CX0 9 fa fd ["_law_script"] (spLaw (K w.params))) :
    PySem.W.WalkO q loose XP YP l.row.toRowW d [] (fun f vs => PySem.call f vs) :=
  L2.walk_of (n := 63) (k := 9) (x := "_law_script") (CX := fun _ => CX0) (sp := fun w => spLaw (K w.params)) hn (by decide) hdf ⟨rfl, by decide, by decide⟩ hY F (fun _ _ a ns hl _ hS => ⟨a, ns, rfl, hS, hl, fun _ => rfl⟩) fun _ _ _ _ _ z => z
end Hd
open PySem PySem.W PyProof.Rows
set_option maxRecDepth 100000 in
set_option maxHeartbeats 0 in
theorem PySem.Challenge.cw_heapsdouble_k15_whole_hardest_heaps_holds : PySem.Challenge.rw_heapsdouble_k15_whole_hardest_heaps.Holds := by
  w_on; o_law; k_head; (case hw => w_witness2)
  k_fill
  refine Hd.walk (l := PySem.Challenge.rw_heapsdouble_k15_whole_hardest_heaps) rfl rfl (fun w h Y => PySem.W.kIn_of Y) ?F
  case F =>
    intro w mg fa h KX G hmg
    refine' Hd.all_mk KX G hmg ?x_BadHeaps ?xL_BadHeaps ?iHI_BadHeaps ?tI ?lI ?cI ?lcda ?hvs ?hfile ?lcc ?hD ?thr ?topN ?z_super ?supI_BadHeaps ?mroI_BadHeaps ?veI_BadHeaps ?xinI_BadHeaps ?kC_BadHeaps ?eC_BadHeaps ?tC_BadHeaps ?iC_BadHeaps ?sC_BadHeaps ?x_TooGreat ?xL_TooGreat ?iHI_TooGreat ?supI_TooGreat ?mroI_TooGreat ?veI_TooGreat ?xinI_TooGreat ?kC_TooGreat ?eC_TooGreat ?tC_TooGreat ?iC_TooGreat ?sC_TooGreat ?x_BadMany ?xL_BadMany ?iHI_BadMany ?supI_BadMany ?mroI_BadMany ?veI_BadMany ?xinI_BadMany ?kC_BadMany ?eC_BadMany ?tC_BadMany ?iC_BadMany ?sC_BadMany ?x_BadTotal ?xL_BadTotal ?iHI_BadTotal ?supI_BadTotal ?mroI_BadTotal ?veI_BadTotal ?xinI_BadTotal ?kC_BadTotal ?eC_BadTotal ?tC_BadTotal ?iC_BadTotal ?sC_BadTotal ?a_is_integer ?l_is_integer ?c_is_integer ?k_is_integer ?a_is_heaps ?l_is_heaps ?c_is_heaps ?k_is_heaps ?a_check_heaps ?l_check_heaps ?c_check_heaps ?k_check_heaps ?a_pairs_of ?l_pairs_of ?c_pairs_of ?k_pairs_of ?a_can_be_made ?l_can_be_made ?c_can_be_made ?k_can_be_made ?a_steps_from ?l_steps_from ?c_steps_from ?k_steps_from ?a_shifted ?l_shifted ?c_shifted ?k_shifted ?a_behind ?l_behind ?c_behind ?k_behind ?a_all_behind ?l_all_behind ?c_all_behind ?k_all_behind ?a_origins ?l_origins ?c_origins ?k_origins ?a_fronts ?l_fronts ?c_fronts ?k_fronts ?a_check_small ?l_check_small ?c_check_small ?k_check_small ?a_fewest ?l_fewest ?c_fewest ?k_fewest ?a_ascending_heaps ?l_ascending_heaps ?c_ascending_heaps ?k_ascending_heaps ?a_ascending_behind ?l_ascending_behind ?c_ascending_behind ?k_ascending_behind ?a_leads_back ?l_leads_back ?c_leads_back ?k_leads_back ?a_check_many_and_total ?l_check_many_and_total ?c_check_many_and_total ?k_check_many_and_total ?a_hardest ?l_hardest ?c_hardest ?k_hardest ?a_returning ?l_returning ?c_returning ?k_returning ?a_l_mix ?l_l_mix ?c_l_mix ?k_l_mix ?a_l_next ?l_l_next ?c_l_next ?k_l_next ?a_l_can ?l_l_can ?c_l_can ?k_l_can ?a_l_behind ?l_l_behind ?c_l_behind ?k_l_behind ?a_l_pairs ?l_l_pairs ?c_l_pairs ?k_l_pairs ?a_l_every ?l_l_every ?c_l_every ?k_l_every ?a_l_next_heaps ?l_l_next_heaps ?c_l_next_heaps ?k_l_next_heaps ?a_l_walk ?l_l_walk ?c_l_walk ?k_l_walk ?a_law ?l_law ?c_law ?k_law ?z_int ?z_bool ?z_list ?z_len ?z_tuple ?z_isinstance ?z_all ?z_any ?z_sum ?z_enumerate ?z_range ?z_sorted ?z_set ?z_max ?z_min ?z_str ?w_FEWEST_HEAPS ?w_MOST_HEAPS ?w_GREATEST ?w_MOST_SMALL_HEAPS ?w_GREATEST_SMALL_SUM ?w_LEAST_MANY ?w_GREATEST_MANY ?w_GREATEST_TOTAL
    (case x_BadHeaps => k_is)
    (case xL_BadHeaps => k_is)
    (case iHI_BadHeaps => k_is)
    (case tI => k_is)
    (case lI => k_is)
    (case cI => k_is)
    (case lcda => k_is)
    (case hvs => rfl)
    (case hfile => first | rfl | decide +kernel)
    (case lcc => k_is)
    (case hD => k_is)
    (case thr => k_is)
    (case topN => first | rfl | decide +kernel)
    (case z_super => k_is)
    (case supI_BadHeaps => ks_is)
    (case mroI_BadHeaps => k_is)
    (case veI_BadHeaps => k_is)
    (case xinI_BadHeaps => kx_is)
    (case kC_BadHeaps => k_is)
    (case eC_BadHeaps => k_is)
    (case tC_BadHeaps => k_is)
    (case iC_BadHeaps => k_is)
    (case sC_BadHeaps => first | rfl | k_is)
    (case x_TooGreat => k_is)
    (case xL_TooGreat => k_is)
    (case iHI_TooGreat => k_is)
    (case supI_TooGreat => ks_is)
    (case mroI_TooGreat => k_is)
    (case veI_TooGreat => k_is)
    (case xinI_TooGreat => kx_is)
    (case kC_TooGreat => k_is)
    (case eC_TooGreat => k_is)
    (case tC_TooGreat => k_is)
    (case iC_TooGreat => k_is)
    (case sC_TooGreat => first | rfl | k_is)
    (case x_BadMany => k_is)
    (case xL_BadMany => k_is)
    (case iHI_BadMany => k_is)
    (case supI_BadMany => ks_is)
    (case mroI_BadMany => k_is)
    (case veI_BadMany => k_is)
    (case xinI_BadMany => kx_is)
    (case kC_BadMany => k_is)
    (case eC_BadMany => k_is)
    (case tC_BadMany => k_is)
    (case iC_BadMany => k_is)
    (case sC_BadMany => first | rfl | k_is)
    (case x_BadTotal => k_is)
    (case xL_BadTotal => k_is)
    (case iHI_BadTotal => k_is)
    (case supI_BadTotal => ks_is)
    (case mroI_BadTotal => k_is)
    (case veI_BadTotal => k_is)
    (case xinI_BadTotal => kx_is)
    (case kC_BadTotal => k_is)
    (case eC_BadTotal => k_is)
    (case tC_BadTotal => k_is)
    (case iC_BadTotal => k_is)
    (case sC_BadTotal => first | rfl | k_is)
    (case a_is_integer => k_is)
    (case l_is_integer => k_is)
    (case c_is_integer => k_is)
    (case k_is_integer => k_is)
    (case a_is_heaps => k_is)
    (case l_is_heaps => k_is)
    (case c_is_heaps => k_is)
    (case k_is_heaps => k_is)
    (case a_check_heaps => k_is)
    (case l_check_heaps => k_is)
    (case c_check_heaps => k_is)
    (case k_check_heaps => k_is)
    (case a_pairs_of => k_is)
    (case l_pairs_of => k_is)
    (case c_pairs_of => k_is)
    (case k_pairs_of => k_is)
    (case a_can_be_made => k_is)
    (case l_can_be_made => k_is)
    (case c_can_be_made => k_is)
    (case k_can_be_made => k_is)
    (case a_steps_from => k_is)
    (case l_steps_from => k_is)
    (case c_steps_from => k_is)
    (case k_steps_from => k_is)
    (case a_shifted => k_is)
    (case l_shifted => k_is)
    (case c_shifted => k_is)
    (case k_shifted => k_is)
    (case a_behind => k_is)
    (case l_behind => k_is)
    (case c_behind => k_is)
    (case k_behind => k_is)
    (case a_all_behind => k_is)
    (case l_all_behind => k_is)
    (case c_all_behind => k_is)
    (case k_all_behind => k_is)
    (case a_origins => k_is)
    (case l_origins => k_is)
    (case c_origins => k_is)
    (case k_origins => k_is)
    (case a_fronts => k_is)
    (case l_fronts => k_is)
    (case c_fronts => k_is)
    (case k_fronts => k_is)
    (case a_check_small => k_is)
    (case l_check_small => k_is)
    (case c_check_small => k_is)
    (case k_check_small => k_is)
    (case a_fewest => k_is)
    (case l_fewest => k_is)
    (case c_fewest => k_is)
    (case k_fewest => k_is)
    (case a_ascending_heaps => k_is)
    (case l_ascending_heaps => k_is)
    (case c_ascending_heaps => k_is)
    (case k_ascending_heaps => k_is)
    (case a_ascending_behind => k_is)
    (case l_ascending_behind => k_is)
    (case c_ascending_behind => k_is)
    (case k_ascending_behind => k_is)
    (case a_leads_back => k_is)
    (case l_leads_back => k_is)
    (case c_leads_back => k_is)
    (case k_leads_back => k_is)
    (case a_check_many_and_total => k_is)
    (case l_check_many_and_total => k_is)
    (case c_check_many_and_total => k_is)
    (case k_check_many_and_total => k_is)
    (case a_hardest => k_is)
    (case l_hardest => k_is)
    (case c_hardest => k_is)
    (case k_hardest => k_is)
    (case a_returning => k_is)
    (case l_returning => k_is)
    (case c_returning => k_is)
    (case k_returning => k_is)
    (case a_l_mix => k_is)
    (case l_l_mix => k_is)
    (case c_l_mix => k_is)
    (case k_l_mix => k_is)
    (case a_l_next => k_is)
    (case l_l_next => k_is)
    (case c_l_next => k_is)
    (case k_l_next => k_is)
    (case a_l_can => k_is)
    (case l_l_can => k_is)
    (case c_l_can => k_is)
    (case k_l_can => k_is)
    (case a_l_behind => k_is)
    (case l_l_behind => k_is)
    (case c_l_behind => k_is)
    (case k_l_behind => k_is)
    (case a_l_pairs => k_is)
    (case l_l_pairs => k_is)
    (case c_l_pairs => k_is)
    (case k_l_pairs => k_is)
    (case a_l_every => k_is)
    (case l_l_every => k_is)
    (case c_l_every => k_is)
    (case k_l_every => k_is)
    (case a_l_next_heaps => k_is)
    (case l_l_next_heaps => k_is)
    (case c_l_next_heaps => k_is)
    (case k_l_next_heaps => k_is)
    (case a_l_walk => k_is)
    (case l_l_walk => k_is)
    (case c_l_walk => k_is)
    (case k_l_walk => k_is)
    (case a_law => k_is)
    (case l_law => k_is)
    (case c_law => k_is)
    (case k_law => k_is)
    (case z_int => k_is)
    (case z_bool => k_is)
    (case z_list => k_is)
    (case z_len => k_is)
    (case z_tuple => k_is)
    (case z_isinstance => k_is)
    (case z_all => k_is)
    (case z_any => k_is)
    (case z_sum => k_is)
    (case z_enumerate => k_is)
    (case z_range => k_is)
    (case z_sorted => k_is)
    (case z_set => k_is)
    (case z_max => k_is)
    (case z_min => k_is)
    (case z_str => k_is)
    (case w_FEWEST_HEAPS => k_is)
    (case w_MOST_HEAPS => k_is)
    (case w_GREATEST => k_is)
    (case w_MOST_SMALL_HEAPS => k_is)
    (case w_GREATEST_SMALL_SUM => k_is)
    (case w_LEAST_MANY => k_is)
    (case w_GREATEST_MANY => k_is)
    (case w_GREATEST_TOTAL => k_is)
