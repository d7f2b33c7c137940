import PyProof.Rows.All
import Wide.All
import OpenK.AllK
import Wide.FinOn
import HandS.ForMost
import HandS.Exc
import HandS.TryOnly
import HandS.ExcOwn
import HandS.WordsExc
import HandS.ExcInit
import HandS.ExcField
import HandS.IsInst
import HandS.Deep
import HandS.Walk
import HandS.Wide
import HandS.Style
import KE.KTupSum
import HandS.Property
import HandS.TupAny
import HandS.SetFor
import HandS.ExcIs
import KE.RegKIsAll
import KE.GoesEnum
import KE.DataMinMax
import KE.KExcSuper
import KE.KSuper
import HandS.Text
import HandS.StrMore
import Wide.Txt
import KE.KExcLine
import PySem.Challenge.RW_heapsdouble_k08_whole_texts_refused
set_option Elab.async false
set_option linter.all false
set_option maxRecDepth 100000
set_option maxHeartbeats 2000000
/-! Rules of our own: xs[i] read for op=, sum of a tuple, enumerate of a tuple. -/
namespace Hd
open PySem PySem.Spec PyProof.Rows L2

theorem Same.tup {K : PySem.W.Frag} {H H' : Hp} {a : Addr} {xs : List V} (e : Same H H') (h : SqT K H a xs) : SqT K H' a xs := by
  rcases h with (h | ⟨o, h⟩) | h
  · exact .inl (.inl (e _ _ h))
  · exact .inl (.inr ⟨o, e _ _ h⟩)
  · exact .inr h
theorem Same.new {H : Hp} {p : Addr} {o : HO} (h : H p = none) : Same H (upd H p o) := fun a u e => by
  rw [upd_ne (ne_of_none e h)]
  exact e
theorem same_upd {H H' : Hp} {p : Addr} {o : HO} (e : Same H H') (h : H p = none) : Same H (upd H' p o) := fun a u ha => by
  rw [upd_ne (ne_of_none ha h)]
  exact e a u ha

/-- a def of one's own by its name: what a caller needs -/
structure Cal (P : Program) (w : World) (K : PySem.W.Frag) (mg : Str → Option Value) (base : Heap) (CX : CXT) (k : Nat) (x : Str) (ps : List Str) (sp : Sp) : Prop where
  ex : ∃ (f : Addr) (fd : FuncData), mg x = some (.ref f) ∧ PySem.W.keepIn K (.ref f) = true ∧ Binds K fd ps [] ∧ FnOk P w K mg base CX k f fd ps sp
def tCal (sp : Sp) (E : XK) (t : TA) : TE := fun σ H Q => t σ H fun vs H1 => sp vs H1 Q E
section
variable {X : Cx}
theorem pe_cal {CX : CXT} {j k : Nat} {x : Str} {ps : List Str} {sp : Sp} {E : XK} {e : Expr} {es : List Expr} {t : TA} {p pos : Pos} (C : Cal X.prog X.w X.K X.mg X.base CX j x ps sp) (hr : Room k X.A) (hg : Gl X x) (hx : Passes CX X E)
    (ha : PA X (e :: es) t) (hk : j ≤ k := by decide) (hdb : (x == ("__debug__" : Str)) = false := by decide) (he : starEach (e :: es) X.env = (false, eval e X.env) :: starEach es X.env := by rfl) (hpl : (backTo pos (starEach es X.env)).any (·.1) = false := by rfl) :
    PE X (.Call (.Name x p) (e :: es) [] pos) (tCal sp E t) := by
  obtain ⟨f, fd, hm, kp, hb, F⟩ := C.ex
  refine ⟨fun pins s σ H Q I h => (pe_call (dvs := []) F (hr.mono hk) hg hm kp hb .nil hx ha hdb he hpl).run pins s σ H Q I ?_⟩
  have e1 : (tCall sp [] E t) = tCal sp E t := by
    funext σ H Q
    unfold tCall tCal
    congr 1
    funext vs H1
    rw [List.append_nil]
  rw [e1]
  exact h
end

/-- a block cut behind its first statement: R is what every way through it brings -/
def tCutM (t u : TS) : TS := fun D σ H => ∃ R : L2.St → Hp → Prop, t { D with nx := R } σ H ∧ ∀ σ' H', R σ' H' → u D σ' H'
theorem pss_cutM {X : Cx} {st : Stmt} {rest : List Stmt} {t u : TS} (a : PS X st t) (b : PSs X rest u) : PSs X (st :: rest) (tCutM t u) := by
  refine ⟨fun pins s σ H D I hh => ?_⟩
  obtain ⟨R, hR, go⟩ := hh
  refine wpAny_execs_cons (thn (a.run pins s σ H { D with nx := R } I hR) fun f s1 q => ?_)
  cases f with
  | next =>
    obtain ⟨σ1, H1, I1, q1⟩ := q
    exact b.run pins s1 σ1 H1 D I1 (go σ1 H1 q1)
  | ret _ => exact q
  | brk => exact q
  | cont => exact q
section
variable {X : Cx}
/-- xs[k], 0 ≤ k, read for xs[k] op= e -/
def rGetL (K : PySem.W.Frag) : V → V → Hp → VK → Prop := fun o i H Q => ∃ p xs k v, o = .ref p ∧ i = .int k ∧ SqL K H p xs ∧ 0 ≤ k ∧ xs[k.toNat]? = some v ∧ Q v H
theorem pget_list : PGet X (rGetL X.K) := by
  intro pins s σ H o i ov iv Q I ro ri h
  obtain ⟨p, xs, k, v, rfl, rfl, hq, h0, he, q⟩ := h
  cases ro
  obtain ⟨t, rfl⟩ := ri
  obtain ⟨its, r, pl, hz⟩ := I.list hq
  obtain ⟨w, ew, rw'⟩ := r.get he
  have hl := r.length
  have hlt : k.toNat < its.length := (List.getElem?_eq_some_iff.mp ew).1
  have hb : k < 2 ^ 63 := by
    rw [sizeLine_eq] at hz
    omega
  exact wpAny_getItem_list pl.isList h0 hb (by simpa using ew) ⟨v, H, I, rw', q⟩

/-- sum(t) of a tuple of ints -/
def rSumT (K : PySem.W.Frag) : List V → Hp → VK → Prop := fun vs H Q => ∃ (a : Addr) (ns : List Int), vs = [V.ref a] ∧ SqT K H a (ns.map V.int) ∧ Q (.int ns.sum) H
theorem cr_sumT (hc : X.calm = true) : CallR X (.builtin "sum") (rSumT X.K) := by
  intro pins s σ H vs us Q I r h
  obtain ⟨a, ns, rfl, hs, q⟩ := h
  obtain ⟨its, rv, hl, _⟩ := I.tuple hs
  rw [Vals.ref1 r]
  have hi := rv.ints
  obtain ⟨xs, e⟩ := hi.allInts.items
  have hn : numsOf (intItems xs).toList = ns := by rw [← e]; exact hi.numsOf
  rw [nums_intItems] at hn
  rw [e] at hl
  refine PySem.W.ktm_sumG (I.ok.hd hc) hl fun h' tk t' hk => ?_
  rw [PySem.preSum_eq, List.take_of_length_le (by simp), hn]
  exact ⟨.int _, H, I.kept hk, ⟨_, rfl⟩, q⟩
end
end Hd
set_option maxHeartbeats 2000000
/-! Promises joined and widened; methods, properties and len of an own class by name; tuple.count. -/
namespace Hd
open PySem PySem.Spec PyProof.Rows L2

section
variable {P : Program} {w : World} {K : PySem.W.Frag} {mg : Str → Option Value} {base : Heap} {k k' : Nat} {f : Addr} {fd : FuncData} {ps : List Str} {sp sp' : Sp} {CX : CXT}
theorem fn_or (F : FnOk P w K mg base CX k f fd ps sp) (G : FnOk P w K mg base CX k f fd ps sp') : FnOk P w K mg base CX k f fd ps (fun vs H Q E => sp vs H Q E ∨ sp' vs H Q E) :=
  ⟨fun vs H Q E h => h.elim (F.len vs H Q E) (G.len vs H Q E), fun A outer s H args us vs Q E hr he hb hv h => h.elim (F.run A outer s H args us vs Q E hr he hb hv) (G.run A outer s H args us vs Q E hr he hb hv)⟩
/-- what raises nothing raises nothing of any kind -/
theorem fn_lift (F : FnOk P w K mg base CX0 k f fd ps sp) : FnOk P w K mg base CX k f fd ps sp :=
  ⟨F.len, fun A outer s H args us vs Q E hr he hb hv h => codeAny_mono (F.run A outer s H args us vs Q E hr he hb hv h) fun r s' q => by
    cases r with
    | error e => exact False.elim q
    | ok fl => cases fl <;> first | exact q | exact False.elim q⟩
/-- where no error is wished for, none leaves -/
theorem fn_calm (F : FnOk P w K mg base (L2.CX P w) k f fd ps sp) (h : ∀ vs H Q E, sp' vs H Q E → sp vs H Q E0) : FnOk P w K mg base CX0 k f fd ps sp' :=
  ⟨fun vs H Q E q => F.len vs H Q E0 (h _ _ _ _ q), fun A outer s H args us vs Q E hr he hb hv q => codeAny_mono (F.run A outer s H args us vs Q E0 hr he hb hv (h _ _ _ _ q)) fun r s' z => by
    cases r with
    | error e =>
      obtain ⟨_, _, _, _, _, _, _, _, _, _, _, _, z⟩ := z
      exact z
    | ok fl => cases fl <;> first | exact z | exact False.elim z⟩
end

section
variable {P : Program} {w : World} {K : PySem.W.Frag} {mg : Str → Option Value} {base : Heap} {k k' : Nat} {x : Str} {ps : List Str} {sp sp' : Sp} {CX : CXT}
theorem Cal.mono (c : Cal P w K mg base CX k x ps sp) (h : k ≤ k' := by decide) : Cal P w K mg base CX k' x ps sp := by
  obtain ⟨f, fd, a, b, c, F⟩ := c.ex
  exact ⟨f, fd, a, b, c, F.mono h⟩
theorem Cal.imp (c : Cal P w K mg base CX k x ps sp) (h : ∀ vs H Q E, sp' vs H Q E → sp vs H Q E) : Cal P w K mg base CX k x ps sp' := by
  obtain ⟨f, fd, a, b, c, F⟩ := c.ex
  exact ⟨f, fd, a, b, c, F.imp h⟩
theorem Cal.calm (c : Cal P w K mg base (L2.CX P w) k x ps sp) (h : ∀ vs H Q E, sp' vs H Q E → sp vs H Q E0) : Cal P w K mg base CX0 k x ps sp' := by
  obtain ⟨f, fd, a, b, c, F⟩ := c.ex
  exact ⟨f, fd, a, b, c, fn_calm F h⟩
theorem Cal.lift (c : Cal P w K mg base CX0 k x ps sp) : Cal P w K mg base CX k x ps sp := by
  obtain ⟨f, fd, a, b, c, F⟩ := c.ex
  exact ⟨f, fd, a, b, c, fn_lift F⟩
end

/-- a method of the class at C by its name -/
structure CalM (P : Program) (w : World) (K : PySem.W.Frag) (mg : Str → Option Value) (base : Heap) (CX : CXT) (k : Nat) (C : Addr) (m : Str) (ps : List Str) (sp : Sp) : Prop where
  ex : ∃ (f : Addr) (fd : FuncData), Meth K C m f ∧ Binds K fd ps [] ∧ FnOk P w K mg base CX k f fd ps sp
/-- a property of it -/
structure CalP (P : Program) (w : World) (K : PySem.W.Frag) (mg : Str → Option Value) (base : Heap) (CX : CXT) (k : Nat) (C : Addr) (m : Str) (ps : List Str) (sp : Sp) : Prop where
  ex : ∃ (p f : Addr) (fd : FuncData), PropOf K C m p f ∧ Binds K fd ps [] ∧ FnOk P w K mg base CX k f fd ps sp
/-- its making -/
structure CalN (P : Program) (w : World) (K : PySem.W.Frag) (mg : Str → Option Value) (base : Heap) (CX : CXT) (k : Nat) (C : Addr) (x : Str) (ps : List Str) (sp : Sp) : Prop where
  ex : ∃ (f : Addr) (fd : FuncData), mg x = some (.ref C) ∧ Mk K C f ∧ Binds K fd ps [] ∧ FnOk P w K mg base CX k f fd ps sp
theorem CalM.calm {P : Program} {w : World} {K : PySem.W.Frag} {mg : Str → Option Value} {base : Heap} {k : Nat} {C : Addr} {x : Str} {ps : List Str} {sp sp' : Sp} (c : CalM P w K mg base (L2.CX P w) k C x ps sp) (h : ∀ vs H Q E, sp' vs H Q E → sp vs H Q E0) : CalM P w K mg base CX0 k C x ps sp' := by
  obtain ⟨f, fd, a, b, F⟩ := c.ex
  exact ⟨f, fd, a, b, fn_calm F h⟩
section
variable {X : Cx} {CX : CXT} {j k : Nat} {C : Addr} {x m : Str} {ps : List Str} {sp : Sp} {E : XK} {e o : Expr} {es : List Expr} {ta : TE} {t : TA} {p pos apos : Pos}
theorem pe_cal0 (c : Cal X.prog X.w X.K X.mg X.base CX j x ps sp) (hr : Room k X.A) (hg : Gl X x) (hx : Passes CX X E) (hk : j ≤ k := by decide) (hdb : (x == ("__debug__" : Str)) = false := by decide) :
    PE X (.Call (.Name x p) [] [] pos) (tCal sp E tNil) := by
  obtain ⟨f, fd, hm, kp, hb, F⟩ := c.ex
  refine ⟨fun pins s σ H Q I h => (pe_call0 (dvs := []) F (hr.mono hk) hg hm kp hb .nil hx hdb).run pins s σ H Q I ?_⟩
  exact h
def tMth (C : Addr) (m : Str) (sp : Sp) (E : XK) (ta : TE) (t : TA) : TE := fun σ H Q => ta σ H fun x H1 => ∃ a dx fs, x = .ref a ∧ H1 a = some (.ins C dx fs) ∧ fs.lookup m = none ∧ t σ H1 fun vs H2 => sp (x :: vs) H2 Q E
theorem pe_mth {pl : Sem Bool} (c : CalM X.prog X.w X.K X.mg X.base CX j C m ps sp) (cl : Cls X.K C) (hr : Room k X.A) (hx : Passes CX X E) (he : PE X o ta) (ha : PA X (e :: es) t) (hk : j ≤ k := by decide)
    (hst : starEach (e :: es) X.env = (false, eval e X.env) :: starEach es X.env := by rfl) (hpl : (backTo pos (starEach es X.env)).any (·.1) = false := by rfl)
    (ht : eval (.Call (.Attribute o m apos) (e :: es) [] pos) X.env = (do
      let ov ← eval o X.env
      standAt apos.atName
      let (f, first) ← holding [ov] (getMethod ov m pl)
      callWith pos f first (backTo pos (starEach (e :: es) X.env)) (backToKw pos (keywordEach [] X.env))) := by rfl) :
    PE X (.Call (.Attribute o m apos) (e :: es) [] pos) (tMth C m sp E ta t) := by
  obtain ⟨f, fd, hm, hb, F⟩ := c.ex
  refine ⟨fun pins s σ H Q I h => (pe_meth (dvs := []) (ds := []) he cl hm F (hr.mono hk) hb .nil hx ha hst hpl ht).run pins s σ H Q I ?_⟩
  have e1 : tMeth C m sp [] E ta t = tMth C m sp E ta t := by
    funext σ H Q
    unfold tMeth tMth
    simp only [List.append_nil]
  rw [e1]
  exact h
theorem pe_mth0 {pl : Sem Bool} (c : CalM X.prog X.w X.K X.mg X.base CX j C m ps sp) (cl : Cls X.K C) (hr : Room k X.A) (hx : Passes CX X E) (he : PE X o ta) (hk : j ≤ k := by decide)
    (ht : eval (.Call (.Attribute o m apos) [] [] pos) X.env = (do
      let ov ← eval o X.env
      standAt apos.atName
      let (f, first) ← holding [ov] (getMethod ov m pl)
      callWith pos f first (backTo pos (starEach [] X.env)) (backToKw pos (keywordEach [] X.env))) := by rfl) :
    PE X (.Call (.Attribute o m apos) [] [] pos) (tMth C m sp E ta tNil) := by
  obtain ⟨f, fd, hm, hb, F⟩ := c.ex
  refine ⟨fun pins s σ H Q I h => (pe_meth0 (dvs := []) (ds := []) he cl hm F (hr.mono hk) hb .nil hx ht).run pins s σ H Q I ?_⟩
  have e1 : tMeth C m sp [] E ta tNil = tMth C m sp E ta tNil := by
    funext σ H Q
    unfold tMeth tMth
    simp only [List.append_nil]
  rw [e1]
  exact h
/-- o.m(e, ..) in a try's body -/
def tMthS (C : Addr) (m : Str) (sp : Sp) (E : L2.St → XK) (ta : TE) (t : TA) : TE := fun σ H Q => ta σ H fun x H1 => ∃ a dx fs, x = .ref a ∧ H1 a = some (.ins C dx fs) ∧ fs.lookup m = none ∧ t σ H1 fun vs H2 => sp (x :: vs) H2 Q (E σ)
theorem pe_mthS {E : L2.St → XK} {pl : Sem Bool} (c : CalM X.prog X.w X.K X.mg X.base CX j C m ps sp) (cl : Cls X.K C) (hr : Room k X.A) (hx : ∀ σ, PassesAt CX X σ (E σ)) (he : PE X o ta) (ha : PA X (e :: es) t) (hk : j ≤ k := by decide)
    (hst : starEach (e :: es) X.env = (false, eval e X.env) :: starEach es X.env := by rfl) (hpl : (backTo pos (starEach es X.env)).any (·.1) = false := by rfl)
    (ht : eval (.Call (.Attribute o m apos) (e :: es) [] pos) X.env = (do
      let ov ← eval o X.env
      standAt apos.atName
      let (f, first) ← holding [ov] (getMethod ov m pl)
      callWith pos f first (backTo pos (starEach (e :: es) X.env)) (backToKw pos (keywordEach [] X.env))) := by rfl) :
    PE X (.Call (.Attribute o m apos) (e :: es) [] pos) (tMthS C m sp E ta t) := by
  obtain ⟨f, fd, hm, hb, F⟩ := c.ex
  refine ⟨fun pins s σ H Q I h => ?_⟩
  refine PySem.W.methodCall_KW (pl := pl) (thn (he.run pins s σ H _ I h) fun u s1 ⟨x, H1, I1, rx, a, dx, fs, ex, ea, l, q⟩ => ?_) ht
  subst ex
  obtain rfl : u = Value.ref a := rx
  refine getmeth_ok I1 ea cl hm l ?_
  refine PySem.W.callWith_K (first := [.ref a]) (h₀ := X.base) I1.ok.mod.kin hm.kp (thn (ha.run pos pins s1 σ H1 _ I1 q) fun us s2 ⟨vs, H2, I2, r, q2⟩ => ⟨I2.kIn, ?_⟩) hst hpl
  exact run_fnS (us := .ref a :: us) (vs := .ref a :: vs) F (hr.mono hk) hb (hx σ) I2 (.cons rfl r) q2
/-- o.f, a property -/
def tPrp (C : Addr) (sp : Sp) (ta : TE) : TE := fun σ H Q => ta σ H fun x H1 => ∃ a dx fs, x = .ref a ∧ H1 a = some (.ins C dx fs) ∧ sp [.ref a] H1 Q E0
theorem pe_prp (c : CalP X.prog X.w X.K X.mg X.base CX0 j C m ps sp) (cl : Cls X.K C) (hr : Room k X.A) (he : PE X e ta) (hk : j + 1 ≤ k := by decide) (hab : attributeBase e m X.env (eval e X.env) = eval e X.env := by rfl) :
    PE X (.Attribute e m pos) (tPrp C sp ta) := by
  obtain ⟨p, f, fd, hp, hb, F⟩ := c.ex
  exact pe_prop (dvs := []) (ds := []) he cl hp F (hr.mono hk) hb .nil pass0 hab
/-- C(e, ..) -/
def tMak (C : Addr) (sp : Sp) (E : XK) (t : TA) : TE := fun σ H Q => t σ H fun vs H1 => ∀ x dx, H1 x = none → H1 dx = none → dx ≠ x → sp (.ref x :: vs) (upd (upd H1 dx (.own x)) x (.ins C dx [])) (fun v H2 => v = .non ∧ Q (.ref x) H2) E
theorem pe_mak (c : CalN X.prog X.w X.K X.mg X.base CX j C x ps sp) (hr : Room k X.A) (hg : Gl X x) (hx : Passes CX X E) (ha : PA X (e :: es) t) (hk : j + 1 ≤ k := by decide) (hdb : (x == ("__debug__" : Str)) = false := by decide)
    (he : starEach (e :: es) X.env = (false, eval e X.env) :: starEach es X.env := by rfl) (hpl : (backTo pos (starEach es X.env)).any (·.1) = false := by rfl) :
    PE X (.Call (.Name x p) (e :: es) [] pos) (tMak C sp E t) := by
  obtain ⟨f, fd, hm, M, hb, F⟩ := c.ex
  refine ⟨fun pins s σ H Q I h => (pe_make (dvs := []) (ds := []) M F (hr.mono hk) hg hm hb .nil hx ha hdb he hpl).run pins s σ H Q I ?_⟩
  have e1 : tMake C sp [] E t = tMak C sp E t := by
    funext σ H Q
    unfold tMake tMak
    simp only [List.append_nil]
  rw [e1]
  exact h
/-- len(o), o of an own class with __len__ -/
def rLenO (C : Addr) (sp : Sp) : List V → Hp → VK → Prop := fun vs H Q => ∃ a dx fs, vs = [V.ref a] ∧ H a = some (.ins C dx fs) ∧ sp [.ref a] H (fun v H' => ∃ n : Int, v = .int n ∧ 0 ≤ n ∧ n < 2 ^ 63 ∧ Q (.int n) H') E0
theorem call_lenO (c : CalM X.prog X.w X.K X.mg X.base CX0 j C "__len__" ps sp) (hr : Room k X.A) (hk : j + 1 ≤ k := by decide) : CallR X (.builtin "len") (rLenO C sp) := by
  obtain ⟨f, fd, hm, hb, F⟩ := c.ex
  intro pins s σ H vs us Q I r h
  obtain ⟨a, dx, fs, rfl, ea, q⟩ := h
  rw [Vals.ref1 r]
  obtain ⟨mA, O, _, _, _, _⟩ := ins_get I.hok ea
  obtain ⟨od, J, _⟩ := O.look
  have hr1 : Room j X.A.in1 := (hr.mono hk).in1
  refine Calls.call_function_entry kind_len plain_len entry_len (args_len1 _) ?_
  unfold Builtin.«len»
  refine wpAny_bind (m := oneArg "len" _) (wpAny_pure ?_)
  have hl : ([Value.ref a] ++ ([] : List Value)).length = ps.length := by
    rw [← F.len _ _ _ _ q]
    rfl
  have b := hb s [.ref a] I.kIn hl
  refine wpAny_bind (m := callSpecial? (.ref a) (Str.ofString "__len__")) (PySem.W.special_fn I.kIn J hm.at_ (beq_iff_eq.mp hm.fn) (wpAny_call (codeAny_mono (F.run X.A.in1 X.stack s H ⟨[.ref a], []⟩ [.ref a] [.ref a] _ E0 hr1 I.env0.in1 b (.cons rfl .nil) q) fun r s' hq => ?_)))
  cases r with
  | error er => exact False.elim hq
  | ok fl =>
    cases fl with
    | ret u =>
      obtain ⟨v, H', I3, rv, n, rfl, h0, h1, q3⟩ := I.after hq
      obtain ⟨t, rfl⟩ := rv
      refine wpAny_bind (wpAny_holding (wpAny_pure ?_))
      refine wpAny_bind (wpAny_letGo ?_)
      show wpAny _ _ (if n < 0 then _ else _) _ _ _
      rw [if_neg (by omega)]
      show wpAny _ _ (if n ≥ 2 ^ 63 then _ else _) _ _ _
      rw [if_neg (by omega)]
      exact wpAny_bind (wpAny_mkInt (wpAny_pure ⟨_, rfl, .int n, H', I3.tok _, ⟨_, rfl⟩, q3⟩))
    | next => exact False.elim hq
    | brk => exact False.elim hq
    | cont => exact False.elim hq
/-- t.count(k), a tuple of ints -/
def rCntT (K : PySem.W.Frag) : V → List V → Hp → VK → Prop := fun x xs H Q => ∃ (p : Addr) (ns : List Int) (k : Int), x = .ref p ∧ xs = [.int k] ∧ SqT K H p (ns.map V.int) ∧ Q (.int (ns.count k : Nat)) H
theorem mt_tcount : MtR X "tuple.count" (rCntT X.K) := by
  intro pins s σ H x xs v us Q I rx rxs h
  obtain ⟨p, ns, k, rfl, rfl, hs, q⟩ := h
  cases rx
  obtain ⟨u, rfl, ru⟩ := rxs.one
  obtain ⟨t, rfl⟩ := ru
  obtain ⟨its, rv, ⟨⟨cls, dd, data, sl⟩, ho, hc, n, hd⟩, hlen⟩ := I.tuple hs
  simp only at hc hd
  subst hc hd
  have hi := ints_of_vals rv
  refine call_meets PySem.F.slot_tuple_count ⟨_, ho, rfl⟩ PySem.F.entry_tuple_count (PySem.F.args_tuple_count_2 _ _)
    (SeqAt.tuple_countAt p its.toArray n dd sl (.int k t) (eqk k)) ⟨ho, fun y hy => (eqk_gives hi y (by simpa using hy)).at _ _, ?_⟩
  have ec : its.toArray.toList.countP (eqk k) = ns.count k := eqk_count hi
  refine ⟨.int (ns.count k : Nat), H, I.tok _, ⟨s.toks, ?_⟩, q⟩
  show Value.int ((its.toArray.toList.countP (eqk k) : Nat) : Int) s.toks = Value.int ((ns.count k : Nat) : Int) s.toks
  rw [ec]
end

theorem exm_self {K : PySem.W.Frag} {S : Addr} (b : PySem.W.subIn K (.ref S) (.type "BaseException") = some true) (i : PySem.W.isClsIn K S = true)
    (t : PySem.W.typeIn K (.ref S) = some (.type "type")) (s : PySem.W.subIn K (.ref S) (.ref S) = some true) : PySem.W.exmOne K (.ref S) (.ref S) = some true := by
  have i' : (PySem.W.clsIn K S).isSome = true := i
  have g1 : (PySem.W.subIn K (.ref S) (.type "BaseException") == some true) = true := by rw [b]; rfl
  have g2 : ((PySem.W.clsIn K S).isSome && PySem.W.typeIn K (.ref S) == some (.type "type")) = true := by rw [i', t]; rfl
  show (if (_ : Bool) = true then (if (_ : Bool) = true then PySem.W.subIn K (.ref S) (.ref S) else none) else none) = some true
  rw [if_pos g1, if_pos g2]
  exact s
theorem units64 {k : Nat} {A : Around} (r : Room k A) : A.units + 64 < cLine := by
  have := r.un
  omega
theorem units65 {k : Nat} {A : Around} (r : Room k A) : A.units + 65 < cLine := by
  have := r.un
  omega
/-- len within a comprehension -/
def rLenK (K : PySem.W.Frag) : List V → Hp → VK → Prop := fun xs H Q => ∃ p ys, xs = [V.ref p] ∧ (SqL K H p ys ∨ SqT K H p ys) ∧ Q (V.int ys.length) H
/-- a test whose answer is shown apart -/
theorem ifF {c : Bool} {a b : Prop} (h : c = false) (g : b) : (if c = true then a else b) := by
  rw [h]
  exact g
theorem ifT {c : Bool} {a b : Prop} (h : c = true) (g : a) : (if c = true then a else b) := by
  rw [h]
  exact g
/-! ### tuples that bear no dict: their methods can be called -/
def TupZ (H : Hp) (a : Addr) (xs : List V) : Prop := ∃ o : Obj, o.dict = none ∧ H a = some (.frz o (.tup xs))
theorem TupZ.sq {K : PySem.W.Frag} {H : Hp} {a : Addr} {xs : List V} (h : TupZ H a xs) : SqT K H a xs := by
  obtain ⟨o, _, h⟩ := h
  exact .inl (.inr ⟨o, h⟩)
theorem TupZ.same {H H' : Hp} {a : Addr} {xs : List V} (s : Same H H') (h : TupZ H a xs) : TupZ H' a xs := by
  obtain ⟨o, d, h⟩ := h
  exact ⟨o, d, s _ _ h⟩
section
variable {X : Cx} {es : List Expr} {t : TA} {pos : Pos}
def tTupZ (t : TA) : TE := fun σ H Q => t σ H fun xs H1 => xs.length ≤ sizeLine ∧ ∀ p o, H1 p = none → o.dict = none → Q (.ref p) (upd H1 p (.frz o (.tup xs)))
theorem pe_tupZ {x1} (h : PA X es t) : PE X (.Tuple es x1 pos) (tTupZ t) := by
  refine ⟨fun pins s σ H Q I hq => ?_⟩
  refine wpAny_Tuple_spliced (thn (h.run pos pins s σ H _ I hq) fun us s1 ⟨xs, H1, I1, r, z, q⟩ => ⟨by rw [← r.length]; exact z, ?_⟩)
  have hf : H1 s1.heap.objs.size = none := I1.hok.fresh (Nat.le_refl _)
  have hd : ({ cls := .type "tuple", data := .seq us.toArray } : Obj).dict = none := rfl
  refine ⟨.ref s1.heap.objs.size, upd H1 s1.heap.objs.size (.frz { cls := .type "tuple", data := .seq us.toArray } (.tup xs)), I1.laid (t' := s1.toks) (fun b u e => Heap.get?_push_of_some _ e) (Nat.le_refl _) ?_, rfl, q _ _ hf hd⟩
  exact ⟨Heap.get?_push_size _ rfl, z, us, r, ⟨_, Heap.get?_push_size _ rfl, rfl, _, rfl⟩⟩
/-- tuple(x) of a list -/
def rTupleZ (K : PySem.W.Frag) : List V → Hp → VK → Prop := fun xs H Q => ∃ p ys, xs = [V.ref p] ∧ SqL K H p ys ∧ ∀ l o, H l = none → o.dict = none → Q (.ref l) (upd H l (.frz o (.tup ys)))
theorem call_tupleZ : CallR X (.type "tuple") (rTupleZ X.K) := by
  intro pins s σ H xs us Q I r h
  obtain ⟨p, ys, rfl, hq, q⟩ := h
  rw [Vals.ref1 r]
  obtain ⟨its, r', pl, hz⟩ := I.list hq
  have hlen := r'.length
  refine call_tuple_list pl.isList (fun h' kp => ?_) (by simp only [List.size_toArray] <;> omega)
  have I1 : Inv X pins σ H { s with heap := h' } := I.kept (t' := s.toks) kp
  have I2 : Inv X pins σ (upd H h'.objs.size (.frz { cls := .type "tuple", data := .seq its.toArray } (.tup ys))) { s with heap := h'.push { cls := .type "tuple", data := .seq its.toArray } } :=
    I1.laid (t' := s.toks) (fun b o e => Heap.get?_push_of_some _ e) (Nat.le_refl _) (show ObjOk X.prog X.w _ _ _ (.frz _ (.tup ys)) from ⟨Heap.get?_push_size _ rfl, hz, its, r', IsTup.new _ _⟩)
  exact ⟨.ref h'.objs.size, _, I2, rfl, q _ _ (I1.hok.fresh (Nat.le_refl _)) rfl⟩
/-- o.m(e, ..), o such a tuple -/
def tBMT (r : V → List V → Hp → VK → Prop) (to : TE) (t : TA) : TE := fun σ H Q => to σ H fun x H1 => (∃ a xs, x = .ref a ∧ TupZ H1 a xs) ∧ t σ H1 fun vs H2 => r x vs H2 Q
theorem pe_bmT {o e : Expr} {to : TE} {name : Str} {apos cpos : Pos} {id : String} {r : V → List V → Hp → VK → Prop} (pa : PlainAttrs "tuple") (slot : Slot "tuple" name id) (hty : typeOf (.builtin id) = pure (.type "method_descriptor")) (hm : MtR X id r) (ho : PE X o to) (ha : PA X (e :: es) t)
    (hbase : attributeBase o name X.env (eval o X.env) = eval o X.env := by rfl)
    (hfew : ((backTo cpos (starEach (e :: es) X.env)).all (fun x => !x.1) && (backToKw cpos (keywordEach [] X.env)).all (fun x => x.1.isSome)
      && decide ((e :: es).length + ([] : List Keyword).length + (if ([] : List Keyword).isEmpty then 0 else 1) < 30)) = true := by rfl)
    (hline : (apos.endLine == cpos.line) = true := by rfl) (hs : starEach (e :: es) X.env = (false, eval e X.env) :: starEach es X.env := by rfl) (hplain : (backTo cpos (starEach es X.env)).any (·.1) = false := by rfl) :
    PE X (.Call (.Attribute o name apos) (e :: es) [] cpos) (tBMT r to t) := by
  refine ⟨fun pins s σ H Q I h => ?_⟩
  refine wpAny_Call_method_late hbase hfew hline rfl (thn (ho.run pins s σ H _ I h) fun v s1 ⟨x, H1, I1, r1, ⟨a, xs, ex, ob, hd, hA⟩, q1⟩ => ?_)
  subst ex
  obtain rfl : v = Value.ref a := r1
  obtain ⟨hg, _, its, rv, o2, h2, hc, n, hdt⟩ := (show ObjOk X.prog X.w H1 s1.heap a (.frz ob (.tup xs)) from I1.hok a _ hA)
  have e2 : o2 = ob := Option.some.inj (h2.symm.trans hg)
  subst e2
  refine ⟨"tuple", id, pa, slot, hty, ⟨_, hg, hc⟩, fun b eb => ?_, ?_⟩
  · cases eb
    exact ⟨_, hg, hd⟩
  have hA := ha.run cpos pins s1 σ H1 _ I1 q1
  rw [hs] at hA ⊢
  refine Calls.callWith_builtin (by show (false || (backTo cpos (starEach es X.env)).any (·.1)) = false; rw [hplain] <;> rfl) (Calls.evalArgs_plain ?_)
  exact thn hA fun us s2 ⟨vs, H2, I2, r2, q2⟩ => hm pins s2 σ H2 (.ref a) vs (.ref a) us Q I2 rfl r2 q2
end
/-- a new tuple handed back: that it bears no dict is forgotten -/
theorem ok_thaw {P : Program} {w : World} {H : Hp} {h : Heap} {a : Addr} {o : Obj} {xs : List V} (ok : HOk P w H h) (ha : H a = some (.frz o (.tup xs))) : HOk P w (upd H a (.tup xs)) h := fun b u e => by
  by_cases q : b = a
  · subst q
    rw [upd_same] at e
    cases e
    obtain ⟨_, z⟩ := (show ObjOk P w H h b (.frz o (.tup xs)) from ok b _ ha)
    exact z
  · rw [upd_ne q] at e
    exact (ok b u e).stay (fun c v _ r => r) (fun c r => by rw [upd_ne (ne_of r ha (by intro z; cases z))]; exact r) fun c ys r => by rw [upd_ne (ne_of r ha (by intro z; cases z))]; exact r
theorem un_thaw {fs ex : List Addr} {H H' : Hp} {h h' : Heap} {a : Addr} {o : HO} (u : Un fs ex H H' h h') (h0 : H a = none) (hs : ∃ v, H' a = some v) : Un fs ex H (upd H' a o) h h' :=
  ⟨u.keep, u.slot, fun b ob q n hx => by
    have z := u.free b ob q n hx
    by_cases e : b = a
    · subst e
      obtain ⟨v, hv⟩ := hs
      rw [hv] at z
      cases z
    · rw [upd_ne e]
      exact z, u.there, fun b xs e => by rw [upd_ne (ne_of_none e h0)]; exact u.tups b xs e, fun b ob v e => by rw [upd_ne (ne_of_none e h0)]; exact u.frzs b ob v e, fun b ps e => by
    obtain ⟨more, z⟩ := u.tbls b ps e
    exact ⟨more, by rw [upd_ne (ne_of_none e h0)]; exact z⟩⟩
theorem fn_thaw {P : Program} {w : World} {K : PySem.W.Frag} {mg : Str → Option Value} {base : Heap} {k : Nat} {f : Addr} {fd : FuncData} {ps : List Str} {sp sp' : Sp} {CX : CXT} (F : FnOk P w K mg base CX k f fd ps sp)
    (h : ∀ vs H Q E, sp' vs H Q E → sp vs H (fun v H' => ∃ a o xs, v = .ref a ∧ H a = none ∧ H' a = some (.frz o (.tup xs)) ∧ Q v (upd H' a (.tup xs))) E) : FnOk P w K mg base CX k f fd ps sp' :=
  ⟨fun vs H Q E q => F.len vs H _ E (h _ _ _ _ q), fun A outer s H args us vs Q E hr he hb hv q => codeAny_mono (F.run A outer s H args us vs _ E hr he hb hv (h _ _ _ _ q)) fun r s' z => by
    cases r with
    | error e => exact z
    | ok fl =>
      cases fl with
      | ret u =>
        obtain ⟨v, H', z1, z2, z3, z4, z5, a, o, xs, rfl, h0, h1, q'⟩ := z
        exact ⟨_, _, z1, z2, un_thaw z3 h0 ⟨_, h1⟩, ok_thaw z4 h1, z5, q'⟩
      | next => exact z
      | brk => exact z
      | cont => exact z⟩
theorem Cal.thaw {P : Program} {w : World} {K : PySem.W.Frag} {mg : Str → Option Value} {base : Heap} {k : Nat} {x : Str} {ps : List Str} {sp sp' : Sp} {CX : CXT} (c : Cal P w K mg base CX k x ps sp)
    (h : ∀ vs H Q E, sp' vs H Q E → sp vs H (fun v H' => ∃ a o xs, v = .ref a ∧ H a = none ∧ H' a = some (.frz o (.tup xs)) ∧ Q v (upd H' a (.tup xs))) E) : Cal P w K mg base CX k x ps sp' := by
  obtain ⟨f, fd, a, b, c, F⟩ := c.ex
  exact ⟨f, fd, a, b, c, fn_thaw F h⟩
theorem same_thaw {H H' : Hp} {a : Addr} {o : HO} (s : Same H H') (h : H a = none) : Same H (upd H' a o) := same_upd s h
end Hd
set_option maxHeartbeats 4000000
/-! isinstance of a caught error that has a dict of its own; a text times a number. -/
namespace Hd
open PySem PySem.Spec PySem.Calls PyProof.Rows PySem.W
section
variable {prog : Program} {w : World} {A : Around} {E : Value → Shared → Prop} {s : Shared} {K : Frag} {x D : Addr} {ox : Obj} {od : Option Obj}
theorem find_cls {C : Addr} {name : Str} {a g : Value} (hc : hasDictIn K C = true) (ha : findIn K (.ref C) name = some (some a)) (hg : specialIn K a "__get__" = some (some g)) (ht : takesIn K a = some true) : findObj K C od name = some (.bind g a) := by
  obtain ⟨cd, hc, _⟩ := any_some hc
  unfold findObj
  rw [hc, Option.bind_some, ha, Option.bind_some]
  simp only [hg, ht, Option.bind_some]
/-- the class of an error, asked by its name, with a dict or without -/
theorem cls_asked {Q : Option Value → Shared → Prop} (C : L2.ExcC K D) (X : K.In s.heap) (I : InstAt s.heap x ox D od) (h : Q (some (.ref D)) { s with toks := s.toks + 1 }) : wpAny (model prog w) A (getAttr? (.ref x) "__class__") Q E s := by
  have hf := find_cls (od := od) C.hd C.ha C.hn C.ht
  obtain ⟨hp, g, d, t, os⟩ := s
  have Ty := I.type (M := model prog w)
  have Ga := looks_findIn (M := model prog w) X C.hg
  have Gg := looks_findIn (M := model prog w) X C.hk
  have Fi := looks_find (M := model prog w) X I hf
  have Be : Looks (model prog w) hp (isInstance (.ref x) (.type "BaseException")) true := Ty.andThen (looks_subIn X C.hs)
  have q1 : (onTheHeap (Value.ref D) && Value.builtin "BaseException.__getattribute__" == Value.builtin "object.__getattribute__") = false := by
    rw [show (Value.builtin "BaseException.__getattribute__" == Value.builtin "object.__getattribute__") = false by decide +kernel]
    rfl
  unfold getAttr? getAttrBy? getAttrBy
  refine wpAny_bind (wpAny_mkText (wpAny_bind (wpAny_attempt (wpAny_holding (wpAny_bind (Ty.at (wpAny_bind (Ga.at ?_))))))))
  show wpAny _ _ (if (onTheHeap (Value.ref D) && Value.builtin "BaseException.__getattribute__" == Value.builtin "object.__getattribute__") = true then _ else _) _ _ _
  rw [q1, if_neg Bool.false_ne_true]
  unfold getAttrByItsOwn hookBefore
  refine wpAny_bind ?_
  rw [if_pos (show onTheHeap (Value.ref D) = true from rfl)]
  refine Gg.at (wpAny_bind (wpAny_attempt (wpAny_holding ?_)))
  unfold callGetattribute
  rw [show (false && onTheHeap (Value.builtin "BaseException.__getattribute__")) = false from rfl, if_neg Bool.false_ne_true]
  unfold boundAndCalled
  rw [PySem.F.excAttr_ValueError.ga.bind (.ref x)]
  refine wpAny_bind (wpAny_pure ?_)
  show wpAny _ _ (call (.builtin "BaseException.__getattribute__") [.ref x, .str "__class__" t]) _ _ _
  refine wpAny_call (codeAny_call_builtin PySem.F.excAttr_ValueError.ga.plain PySem.F.entry_bexc_ga ?_)
  refine @check_slot (model prog w) _ _ ⟨hp, g, d, t + 1, os⟩ "BaseException.__getattribute__" "BaseException" "__getattribute__" (.ref x) [.str "__class__" t] [] _ (by decide +kernel) (by decide +kernel) Be (PySem.F.args_bexc_ga (.ref x) (.str "__class__" t)) ?_
  unfold Builtin.«object.__getattribute__»
  refine wpAny_bind (wpAny_of_eq (a := ((Value.ref x : Value), [Value.str "__class__" t])) (by first | rfl | (simp only [slotArgs]; rfl)) ?_)
  refine wpAny_bind (wpAny_pure (wpAny_bind (Ty.at (wpAny_bind (Fi.at ?_)))))
  show wpAny _ _ (holding [Value.builtin "object.__class__"] (call (.builtin "getset_descriptor.__get__") [.builtin "object.__class__", .ref x, .ref D]) >>= ret) _ _ _
  refine wpAny_bind (wpAny_holding (wpAny_call (class_get (s := ⟨hp, g, d, t + 1, os⟩) (ox := ox) (od := od) X I C.hm ?_)))
  refine wpAny_pure ?_
  show wpAny _ _ (handedOut (.ref D)) _ _ _
  rw [handedOut_of (v := .ref D) rfl]
  first
    | exact wpAny_pure (wpAny_pure h)
    | exact wpAny_pure h
    | exact wpAny_pure (wpAny_bind (wpAny_pure (wpAny_pure h)))
theorem cls_head (C : L2.ExcC K D) : ∃ c' d' cd' sl', K.lookup D = some ⟨c', d', .cls cd', sl'⟩ := by
  obtain ⟨cd, hc, _⟩ := any_some C.hd
  unfold clsIn at hc
  split at hc
  · exact ⟨_, _, _, _, by assumption⟩
  · cases hc
theorem kit_err (C : L2.ExcC K D) : KitX K (.ref x) (.ref D) (fun h => InstAt h x ox D od) where
  ty := fun _ _ _ I => I.type
  it := fun _ _ X _ => by
    obtain ⟨c', d', cd', sl', ho⟩ := cls_head C
    intro A' Q' E' s' k q
    unfold isType loadHead
    exact wpAny_bind (wpAny_loadPart (k _ _ (X _ _ ho)) (wpAny_pure q))
  ne := fun h tp dd its n sl X htp => by
    obtain ⟨c', d', cd', sl', ho⟩ := cls_head C
    refine Bool.eq_false_iff.mpr fun q => ?_
    obtain rfl : D = tp := Value.ref.inj (beq_iff_eq.mp q)
    have z := (X _ _ ho).symm.trans htp
    cases z
  ca := fun X I k => cls_asked C X I k
end
open L2
/-- isinstance(e, c): e the error that the suite holds, with its dict -/
def rIsX (K : PySem.W.Frag) (D : Addr) (cls : Value) (d : Option Addr) (a : Addr) : List V → Hp → VK → Prop := fun xs H Q => ∃ (c : V) (cv : Value) (b : Bool) (dd : Addr) (fs : List (Str × V)), xs = [.ref a, c] ∧ cls = .ref D ∧ d = some dd ∧ H dd = some (.xd fs) ∧ (∀ u, RelV c u → u = cv) ∧ PySem.W.kitOne K (.ref D) cv = some b ∧ Q (.bl b) H
theorem call_isX {X : Cx} {a D : Addr} {oe : Obj} {cls : Value} {d : Option Addr} {pn : List (Addr × Obj)} (C : ExcC X.K D) (hz : Zc cls d oe) (hf : ∃ vs, oe.data = .fields vs) : CallR (X.suite a ((a, oe) :: pn)) (.builtin "isinstance") (rIsX X.K D cls d a) := by
  intro pins s σ H xs us Q I r h
  obtain ⟨c, cv, b, dd, fs, rfl, rfl, rfl, hdd, hcv, e, q⟩ := h
  cases r with
  | cons rx rr =>
    cases rr with
    | cons rt rr =>
      cases rr
      cases rx
      have ec := hcv _ rt
      subst ec
      obtain ⟨ha, _⟩ := I.pin (a, oe) (List.mem_append.mpr (.inl List.mem_cons_self))
      obtain ⟨vs, hv⟩ := hf
      have ho : ObjOk X.prog X.w H s.heap dd (.xd fs) := I.hok dd _ hdd
      obtain ⟨mA, hns, hr⟩ := ho
      obtain ⟨od, ho, _⟩ := lookIn_ns hns
      have J : PySem.W.InstAt s.heap a oe D (some od) := ⟨ha, hz.1, by unfold PySem.W.notCls; rw [hv] <;> rfl, by rw [hz.2]; exact ho⟩
      exact PySem.W.kia_one (kit_err C) I.kIn J e (fun z => nomatch z) fun tk => ⟨.bl b, H, I.kept (t' := tk) fun _ _ z => z, rfl, q⟩
/-! ### a text times a number -/
theorem fold_app (c : Array Nat) : ∀ (m : Nat) (acc : Array Nat), ((List.replicate m c).foldl (· ++ ·) acc).toList = acc.toList ++ (List.replicate m c.toList).flatten
  | 0, acc => by simp
  | m + 1, acc => by
    rw [List.replicate_succ, List.foldl_cons, fold_app c m, Array.toList_append, List.replicate_succ, List.flatten_cons, List.append_assoc]
def rMulS : R2 := fun x y H Q => ∃ (z : Str) (n : Nat), x = .str z ∧ y = .int (n : Int) ∧ 2 ≤ n ∧ n ≤ 100 ∧ 1 ≤ z.length ∧ z.length ≤ 100 ∧ ∀ u : Str, u.length = n * z.length → TL.tl u = (List.replicate n (TL.tl z)).flatten → Q (.str u) H
theorem op_mulS {X : Cx} : OpR X (binaryOp .Mult) rMulS := by
  intro pins s σ H x y v u Q I rx ry h
  obtain ⟨z, n, rfl, rfl, h2, h100, z1, z100, q⟩ := h
  obtain ⟨t, rfl⟩ := rx
  obtain ⟨t', rfl⟩ := ry
  have hn1 : ¬ (n : Int) < 1 := by omega
  have hlen : (List.replicate n z.cps.toList).flatten.length = n * z.length := by
    rw [List.length_flatten, List.map_replicate, List.sum_replicate_nat]
    rfl
  have hb : ((n : Int) == 1 || z.length == 0) = false := by
    rw [Bool.or_eq_false_iff]
    exact ⟨beq_eq_false_iff_ne.mpr (by omega), beq_eq_false_iff_ne.mpr (by omega)⟩
  have hm : n * z.length ≤ 100 * 100 := Nat.mul_le_mul h100 z100
  have htl : TL.tl ⟨(List.replicate n z.cps).foldl (· ++ ·) #[]⟩ = (List.replicate n (TL.tl z)).flatten := by
    show ((List.replicate n z.cps).foldl (· ++ ·) #[]).toList = _
    rw [fold_app]
    rfl
  have hul : (⟨(List.replicate n z.cps).foldl (· ++ ·) #[]⟩ : Str).length = n * z.length := by
    rw [TL.len_tl, htl]
    exact hlen
  refine PySem.P.mul_str (by rw [Bool.or_eq_false_iff]; exact ⟨decide_eq_false (by omega), decide_eq_false (by omega)⟩) (fun _ _ => ?_) (fun _ _ => ?_) ?_
  · have : (100 : Int) ≤ (2 ^ 63 - 1) / (n : Int) := by
      rw [Int.le_ediv_iff_mul_le (by omega)]
      omega
    omega
  · show decide (z.length * (n : Int).toNat > sizeLine) = false
    rw [Int.toNat_natCast, Nat.mul_comm]
    exact decide_eq_false (by rw [sizeLine_eq]; omega)
  · rw [if_neg hn1, hb, if_neg Bool.false_ne_true, Int.toNat_natCast]
    exact ⟨by rw [hul, sizeLine_eq]; omega, .str _, H, I.tok _, ⟨_, rfl⟩, q _ hul htl⟩
/-! ### a call whose raising is told -/
theorem pe_calS {X : Cx} {j k : Nat} {x : Str} {ps : List Str} {sp : Sp} {E : L2.St → XK} {e : Expr} {es : List Expr} {t : TA} {p pos : Pos} {CX : CXT} (C : Cal X.prog X.w X.K X.mg X.base CX j x ps sp) (hr : Room k X.A) (hg : Gl X x)
    (hx : ∀ σ, PassesAt CX X σ (E σ)) (ha : PA X (e :: es) t) (hk : j ≤ k := by decide) (hdb : (x == ("__debug__" : Str)) = false := by decide) (he : starEach (e :: es) X.env = (false, eval e X.env) :: starEach es X.env := by rfl)
    (hpl : (backTo pos (starEach es X.env)).any (·.1) = false := by rfl) : PE X (.Call (.Name x p) (e :: es) [] pos) (tCallS sp E t) := by
  obtain ⟨f, fd, hm, kp, hb, F⟩ := C.ex
  exact pe_callS F (hr.mono hk) hg hm kp hb hx ha hdb he hpl
end Hd
set_option maxHeartbeats 4000000
/-! enumerate of a tuple. -/
namespace Hd
open PySem PySem.Spec PyProof.Rows L2
open AutoSeq1 (wpAny_loadPart')
theorem enumNewT (q : Addr) (zs : Array Value) (m : Nat) (od : Option Addr) (so : Array (Option Value)) :
    Meets (Builtin.«enumerate.__new__» ⟨[.type "enumerate", .ref q], []⟩) (fun _ R s =>
      s.heap.get? q = some { cls := .type "tuple", dict := od, data := .seq zs m, slots := so } ∧
      R (.ok (.ret (.ref (s.heap.push { cls := .type "tuple_iterator", data := .fields #[.ref q, .int 0 0] }).objs.size)))
        ⟨(s.heap.push { cls := .type "tuple_iterator", data := .fields #[.ref q, .int 0 0] }).push
              { cls := .type "enumerate", data := .fields #[.none, .bool false, .ref s.heap.objs.size, rawInt 0, .none, .none] }, s.gens, s.drawn, s.toks, s.os⟩) :=
  .of_wp fun P0 w0 A0 R0 s0 k0 => by
    obtain ⟨h0, g0, d0, t0, o0⟩ := s0
    obtain ⟨hq, k0⟩ := k0
    have subE := sub_enumerate
    have isT : Heap.IsTuple (Shared.heap ⟨h0, g0, d0, t0, o0⟩) q zs := ⟨_, hq, rfl, m, rfl⟩
    wp_walk using wpAny_loadPart' hq
    refine wpAny_stack_any fun _ => wpAny_pure ?_
    split
    · rename_i c _ _ _ _ _
      cases (c == Value.type "enumerate") <;> (wp_walk using wpAny_loadPart' hq, wpAny_pyIter_tuple isT; exact ⟨_, rfl, k0⟩)
    · wp_walk using wpAny_loadPart' hq, wpAny_pyIter_tuple isT
      exact ⟨_, rfl, k0⟩
theorem enumCallT {prog : Program} {w : World} {A : Around} {E : Value → Shared → Prop} {s : Shared} {q : Addr} {zs : Array Value} {Q : Value → Shared → Prop} (isT : s.heap.IsTuple q zs)
    (k : ∀ h', IsEnum h' (s.heap.objs.size + 1) s.heap.objs.size 0 .none → h'.IsTupleIter s.heap.objs.size q 0 → (∀ b o, s.heap.get? b = some o → h'.get? b = some o) → Q (.ref (s.heap.objs.size + 1)) { s with heap := h' }) :
    wpAny (model prog w) A (call (.type "enumerate") [.ref q]) Q E s := by
  obtain ⟨⟨oc, od, dt, so⟩, hq, hc, m, hd⟩ := isT
  replace hc : oc = .type "tuple" := hc
  replace hd : dt = .seq zs m := hd
  subst hc hd
  refine callType_new F.called_enumerate (by decide) (F.typeCall_enumerate_1 _) (F.newCall_enumerate_1 _)
    (fun obj => F.args_object_init_2 obj _) F.entry_enumerate_new (enumNewT q zs m od so) ⟨hq, ?_⟩
  have hz : (s.heap.push { cls := .type "tuple_iterator", data := .fields #[.ref q, .int 0 0] }).objs.size = s.heap.objs.size + 1 := Heap.size_push ..
  show _ ∧ _
  rw [hz]
  have he : IsEnum ((s.heap.push { cls := .type "tuple_iterator", data := .fields #[.ref q, .int 0 0] }).push
      { cls := .type "enumerate", data := .fields #[.none, .bool false, .ref s.heap.objs.size, rawInt 0, .none, .none] })
      (s.heap.objs.size + 1) s.heap.objs.size 0 .none := by
    have := Heap.get?_push_size (s.heap.push { cls := .type "tuple_iterator", data := .fields #[.ref q, .int 0 0] })
      (o := { cls := .type "enumerate", data := .fields #[.none, .bool false, .ref s.heap.objs.size, rawInt 0, .none, .none] }) rfl
    rw [hz] at this
    exact this
  exact ⟨⟨_, he, rfl⟩, k _ he ⟨({ cls := .type "tuple_iterator", data := .fields #[.ref q, .int 0 0] } : Obj), Heap.get?_push_of_some _ (Heap.get?_push_size _ rfl), rfl, rfl⟩
    fun b o x => Heap.get?_push_of_some _ (Heap.get?_push_of_some _ x)⟩
/-- the tuple at a, each item in a new pair -/
def IteT (K : PySem.W.Frag) (a : Addr) : It where
  go := fun i H => ∃ (xs : List V) (x : V), SqT K H a xs ∧ xs[i]? = some x
  yld := fun i H v H' => ∃ T x, v = .ref T ∧ H T = none ∧ H' = upd H T (.tup [.int (i : Nat), x]) ∧ ∀ xs, SqT K H a xs → xs[i]? = some x
  stop := fun i H => ∃ xs : List V, SqT K H a xs ∧ xs.length = i
theorem tupNe {h : Heap} {a it : Addr} {zs : Array Value} {i : Nat} (t : h.IsTuple a zs) (j : h.IsTupleIter it a i) : a ≠ it := fun z => by
  obtain ⟨o, h1, h2, _⟩ := t
  obtain ⟨o', h3, h4, _⟩ := j
  rw [z, h3] at h1
  cases h1
  rw [h2] at h4
  injection h4 with h5
  exact absurd h5 (by decide)
theorem enumNe {h : Heap} {a e it : Addr} {zs : Array Value} {c : Int} {v : Value} (t : h.IsTuple a zs) (j : IsEnum h e it c v) : e ≠ a := fun z => by
  obtain ⟨o, h1, h2, _⟩ := t
  have j' : h.get? e = some _ := j
  rw [z, h1] at j'
  have j2 := Option.some.inj j'
  rw [j2] at h2
  injection h2 with h5
  exact absurd h5 (by decide)
theorem turn_enumT {P : Program} {w : World} {K : PySem.W.Frag} {elts : List Expr} {kk : Nat} {tpos : Pos} (a e it : Addr) :
    Turn P w K (.Tuple elts kk tpos) (IteT K a) [e, it] e (fun i h => (∃ old, IsEnum h e it ((i : Nat) : Int) old) ∧ h.IsTupleIter it a i ∧ e ≠ it) where
  mem := List.mem_cons_self
  obj := fun i h st b hb => by
    obtain ⟨⟨old, he⟩, ⟨o, ho, hc, hd⟩, _⟩ := st
    rcases (show b = e ∨ b = it by simpa using hb) with z | z
    · subst z
      exact ⟨_, he, fun v q => nomatch q⟩
    · subst z
      exact ⟨o, ho, fun v q => by rw [hd] at q; cases q⟩
  keep := fun i h h' st k => by
    obtain ⟨⟨old, he⟩, hi, hne⟩ := st
    exact ⟨⟨old, k e (by simp) _ he⟩, hi.at fun o q => k it (by simp) o q, hne⟩
  item := by
    intro X hP hw hK hc i pins s σ H E I hf st hg
    subst hP hw hK
    obtain ⟨⟨old, he⟩, hit, hne⟩ := st
    obtain ⟨xs, x, hq, hx⟩ := hg
    obtain ⟨its, rv, p, hz⟩ := I.tuple hq
    have isT : s.heap.IsTuple a its.toArray := p
    have hel : e < s.heap.objs.size := Heap.lt_size he
    have hil : it < s.heap.objs.size := by
      obtain ⟨_, q, _⟩ := hit
      exact Heap.lt_size q
    have hai := tupNe isT hit
    have hea := enumNe isT he
    have hlt : i < its.toArray.size := by
      have z := (List.getElem?_eq_some_iff.mp hx).1
      have l := rv.length
      simp
      omega
    have D := Draws.tuple (prog := X.prog) (w := X.w) (A := X.A.in1) (I.ok.hd hc) it a hai its.toArray
    refine wpAny_pyNext_enum_itemC D he ⟨hit, isT⟩ hlt hne (by simp [hne, hea]) fun u h' tk hu ho st' hT hsz hk => ?_
    refine ⟨_, rfl, wpAny_letOwnedTupleGo_enum (s := { s with heap := h', toks := tk + 1 }) ho fun h'' he' sb => ?_⟩
    obtain ⟨u', hu', ru⟩ := rv.get hx
    have euu : u' = u := by
      have z : its[i]? = some u := by simpa using hu
      rw [hu'] at z
      exact Option.some.inj z
    subst euu
    have hT2 : h''.get? s.heap.objs.size = some { cls := .type "tuple", data := .seq #[.int i tk, u'] } := (sb.2 _ (Nat.ne_of_gt hel)).trans hT
    have new : ObjOk X.prog X.w (upd H s.heap.objs.size (.tup [.int (i : Nat), x])) h'' s.heap.objs.size (.tup [.int (i : Nat), x]) :=
      ⟨by show 2 ≤ sizeLine; decide, [.int i tk, u'], .cons ⟨_, rfl⟩ (.cons ru .nil), ⟨_, hT2, rfl, _, rfl⟩⟩
    have J : Inv X pins σ (upd H s.heap.objs.size (.tup [.int (i : Nat), x])) { s with heap := h'', toks := tk + 1 } :=
      I.turnedNew (ch := [e, it]) (fun b ob hb q => (sb.2 b fun z => hb (by simp [z])).trans (hk b ob (fun z => hb (by simp [z])) (fun z => hb (by simp [z])) q)) hf (Nat.le_refl _) new
    refine ⟨.ref s.heap.objs.size, _, J, rfl, ⟨_, x, rfl, I.hok.fresh (Nat.le_refl _), rfl, fun ys hy => by rw [I.tuple_inj hy hq]; exact hx⟩,
      ⟨⟨u', ?_⟩, st'.1.at fun o q => (sb.2 it (Ne.symm hne)).trans q, hne⟩, fun b hb => ?_⟩
    · have e1 : ((i + 1 : Nat) : Int) = (i : Int) + 1 := by omega
      rw [e1]
      exact he'
    · have hb' : b < s.heap.objs.size := by
        rcases (show b = e ∨ b = it by simpa using hb) with z | z
        · rw [z]
          exact hel
        · rw [z]
          exact hil
      rw [upd_ne (Nat.ne_of_lt hb')]
      exact (hf b hb).1
  done := by
    intro X hP hw hK hc i pins s σ H E I hf st hg
    subst hP hw hK
    obtain ⟨⟨old, he⟩, hit, hne⟩ := st
    obtain ⟨xs, hq, hx⟩ := hg
    obtain ⟨its, rv, p, hz⟩ := I.tuple hq
    have isT : s.heap.IsTuple a its.toArray := p
    have hai := tupNe isT hit
    obtain ⟨f0, f1, f2, f3, f4, f5⟩ := hf it (by simp)
    have D := Draws.tuple (prog := X.prog) (w := X.w) (A := X.A.in1) (I.ok.hd hc) it a hai its.toArray
    have ei : its.toArray.size = i := by
      have l := rv.length
      simp
      omega
    refine wpAny_pyNext_enum_endD D he ⟨by rw [ei]; exact hit, isT⟩ fun h' eb => ⟨rfl, ?_⟩
    exact I.turned (t' := s.toks) (fun b o hb q => eb b o hb q) f0 f1 f3 f4 f5
  self := fun A i s Q E st k => by
    obtain ⟨⟨_, he⟩, _⟩ := st
    exact wpAny_pyIter_enum he k
def iEnumT (K : PySem.W.Frag) (ta : TA) : TI := fun σ H R => ta σ H fun vs H1 => ∃ a xs, vs = [.ref a] ∧ SqT K H1 a xs ∧ R (IteT K a) H1
theorem pi_enumT {X : Cx} {e : Expr} {ta : TA} {p pos tpos : Pos} {elts : List Expr} {kk : Nat} (hg : Gl X "enumerate") (hm : X.mg "enumerate" = none) (ha : PA X [e] ta)
    (hs : starEach [e] X.env = [(false, eval e X.env)] := by rfl) : PI X (.Tuple elts kk tpos) (.Call (.Name "enumerate" p) [e] [] pos) (iEnumT X.K ta) := by
  refine ⟨fun pins s σ H R I h => ?_⟩
  refine Call_ (ld_blt I hg hm boot_enumerate (PyProof.Rows.callWith_type1 (thn (ha.run pos pins s σ H _ I h) fun us s1 hh => ?_) hs rfl))
  obtain ⟨vs, H1, I1, r1, a, xs, ex, hq, q⟩ := hh
  subst ex
  rw [Vals.ref1 r1]
  obtain ⟨its, rv, p', hz⟩ := I1.tuple hq
  refine enumCallT (show s1.heap.IsTuple a its.toArray from p') fun h' he hit hk => wpAny_pyIter_enum he ?_
  have I2 : Inv X pins σ H1 { s1 with heap := h' } := I1.kept (t' := s1.toks) hk
  refine ⟨s1.heap.objs.size + 1, [s1.heap.objs.size + 1, s1.heap.objs.size], _, _, H1, rfl, I2, turn_enumT a (s1.heap.objs.size + 1) s1.heap.objs.size,
    ⟨⟨.none, he⟩, hit, Nat.succ_ne_self _⟩, fun b hb => ?_, q⟩
  have hle : s1.heap.objs.size ≤ b := by
    rcases (show b = s1.heap.objs.size + 1 ∨ b = s1.heap.objs.size by simpa using hb) with z | z
    · rw [z]
      exact Nat.le_add_right _ _
    · rw [z]
      exact Nat.le_refl _
  exact I1.fpOk hle (I1.hok.fresh hle)
theorem walk_enumT {K : PySem.W.Frag} {a : Addr} {xs : List V} : Walk (IteT K a) xs.length (fun H => SqT K H a xs) (YPair (fun i => some (.int (i : Nat))) (fun i => xs[i]?)) := by
  refine ⟨fun i _ hi q => ⟨xs, xs[i], q, by simp [hi]⟩, fun _ q => ⟨xs, q, rfl⟩, fun i H v H' _ q y => ?_⟩
  obtain ⟨T, x, h1, h2, h3, h4⟩ := y
  exact ⟨T, .int (i : Nat), x, h1, h2, h3, rfl, h4 xs q⟩
end Hd
set_option maxHeartbeats 4000000
/-! min and max of a tuple of ints. -/
namespace Hd
open PySem PySem.Spec PyProof.Rows L2
theorem reads_ints {h : Heap} : ∀ {us : List Value} {ns : List Int}, IntsAre us ns → ReadsAll h us (ns.map PyData.int) []
  | _, _, .nil => .nil
  | _, _, .cons n t r => ReadsAll.cons (as := []) (bs := []) (.int n t) (reads_ints r)
theorem deep_ints : ∀ ns : List Int, PyData.depthAll (ns.map PyData.int) = 0
  | [] => by simp [PyData.depthAll]
  | n :: ns => by
    have := deep_ints ns
    simp only [List.map_cons, PyData.depthAll, PyData.depth]
    omega
theorem alike_ints (ns : List Int) : PySem.W.AlikeAll (ns.map PyData.int) := by
  refine ⟨fun x hx y hy => ?_, fun x hx => ?_⟩
  · obtain ⟨n, _, rfl⟩ := List.mem_map.mp hx
    obtain ⟨m, _, rfl⟩ := List.mem_map.mp hy
    first | rfl | simp [PySem.W.alike]
  · obtain ⟨n, _, rfl⟩ := List.mem_map.mp hx
    intro z
    cases z
section
variable {X : Cx}
def rMinT (K : PySem.W.Frag) : List V → Hp → VK → Prop := fun vs H Q => ∃ (a : Addr) (n : Int) (ns : List Int), vs = [V.ref a] ∧ SqT K H a ((n :: ns).map V.int) ∧ Q (.int (ns.foldl min n)) H
def rMaxT (K : PySem.W.Frag) : List V → Hp → VK → Prop := fun vs H Q => ∃ (a : Addr) (n : Int) (ns : List Int), vs = [V.ref a] ∧ SqT K H a ((n :: ns).map V.int) ∧ Q (.int (ns.foldl max n)) H
theorem cr_minT (hc : X.calm = true) (hu : X.A.units + 64 < cLine) : CallR X (.builtin "min") (rMinT X.K) := by
  intro pins s σ H vs us Q I r h
  obtain ⟨a, n, ns, rfl, hs, q⟩ := h
  obtain ⟨its, rv, hl, _⟩ := I.tuple hs
  rw [Vals.ref1 r]
  refine PySem.W.min_tuple_data (x := .int n) (xs := ns.map PyData.int) (I.ok.hd hc) (show s.heap.IsTuple a its.toArray from hl) (by simpa using reads_ints (h := s.heap) rv.ints) (alike_ints (n :: ns)) ?_ fun i v h' tk bs hv hr hk => ?_
  · have := deep_ints (n :: ns)
    rw [List.map_cons] at this
    omega
  · rw [PySem.W.minD_ints] at hr
    cases hr with
    | int _ t => exact ⟨.int _, H, I.kept hk, ⟨t, rfl⟩, q⟩
theorem cr_maxT (hc : X.calm = true) (hu : X.A.units + 64 < cLine) : CallR X (.builtin "max") (rMaxT X.K) := by
  intro pins s σ H vs us Q I r h
  obtain ⟨a, n, ns, rfl, hs, q⟩ := h
  obtain ⟨its, rv, hl, _⟩ := I.tuple hs
  rw [Vals.ref1 r]
  refine PySem.W.max_tuple_data (x := .int n) (xs := ns.map PyData.int) (I.ok.hd hc) (show s.heap.IsTuple a its.toArray from hl) (by simpa using reads_ints (h := s.heap) rv.ints) (alike_ints (n :: ns)) ?_ fun i v h' tk bs hv hr hk => ?_
  · have := deep_ints (n :: ns)
    rw [List.map_cons] at this
    omega
  · rw [PySem.W.maxD_ints] at hr
    cases hr with
    | int _ t => exact ⟨.int _, H, I.kept hk, ⟨t, rfl⟩, q⟩
end
end Hd
set_option maxHeartbeats 4000000
/-! raise X() of an own class whose base's __init__ says super().__init__(). -/
namespace Hd
open PySem PySem.W PySem.Calls PyProof.Rows
/-- the scope of def __init__(self): super().__init__() -/
def hiScope : Scope := { kind := .function, names := [(PySem.Str.ofString "self", .local), (PySem.Str.ofString "__class__", .free), (PySem.Str.ofString "super", .globalImplicit)], isGenerator := false, isCoroutine := false, more := [] }
/-- the base's __init__ as the top leaves it: a def that closes over its class -/
structure SupDef (prog : Program) (K : Frag) (fI D : Addr) : Prop where
  ex : ∃ (oc : Value) (od an : Option Addr) (params : Arguments) (qual : Str) (dV kV doc pm ct : Value) (cc cda : Addr) (osl : Array (Option Value)) (p0 p1 ap cp ep : Pos) (ar : Arg)
      (ccl cl : Value) (cdd cld : Option Addr) (vs : Array Value) (ccs csl : Array (Option Value)) (file : Str) (tf : Tok) (cdD : ClassData),
    K.lookup fI = some ⟨oc, od, .func (fnX "__init__" qual params [.Expr (.Call (.Attribute (.Call (.Name "super" p0) [] [] p1) "__init__" ap) [] [] cp) ep] hiScope [("__class__", cc)] dV kV doc pm an (.ref cda) ct), osl⟩ ∧
    codeIn K (.ref cda) qual = true ∧ (params.posonlyargs ++ params.args).head? = some ar ∧ ar.arg = "self" ∧
    (∀ v : Value, bindArgs (fnX "__init__" qual params [.Expr (.Call (.Attribute (.Call (.Name "super" p0) [] [] p1) "__init__" ap) [] [] cp) ep] hiScope [("__class__", cc)] dV kV doc pm an (.ref cda) ct) ⟨[v], []⟩ = pure [(("self" : Str), v)]) ∧
    (∀ L : Addr, ∃ pl : Sem Bool, eval (.Call (.Attribute (.Call (.Name "super" p0) [] [] p1) "__init__" ap) [] [] cp) (callEnv (fnX "__init__" qual params [.Expr (.Call (.Attribute (.Call (.Name "super" p0) [] [] p1) "__init__" ap) [] [] cp) ep] hiScope [("__class__", cc)] dV kV doc pm an (.ref cda) ct) L fI) = (do
      let ov ← attributeBase (.Call (.Name "super" p0) [] [] p1) "__init__" (callEnv (fnX "__init__" qual params [.Expr (.Call (.Attribute (.Call (.Name "super" p0) [] [] p1) "__init__" ap) [] [] cp) ep] hiScope [("__class__", cc)] dV kV doc pm an (.ref cda) ct) L fI) (eval (.Call (.Name "super" p0) [] [] p1) (callEnv (fnX "__init__" qual params [.Expr (.Call (.Attribute (.Call (.Name "super" p0) [] [] p1) "__init__" ap) [] [] cp) ep] hiScope [("__class__", cc)] dV kV doc pm an (.ref cda) ct) L fI))
      standAt ap.atName
      let (f, first) ← holding [ov] (getMethod ov "__init__" pl)
      callWith cp f first (backTo cp (starEach [] (callEnv (fnX "__init__" qual params [.Expr (.Call (.Attribute (.Call (.Name "super" p0) [] [] p1) "__init__" ap) [] [] cp) ep] hiScope [("__class__", cc)] dV kV doc pm an (.ref cda) ct) L fI))) [])) ∧
    K.lookup cda = some ⟨ccl, cdd, .fields vs, ccs⟩ ∧ vs[2]? = some (.str file tf) ∧ ((prog.main.file : Str) == file) = true ∧
    K.lookup cc = some ⟨cl, cld, .cell (some (.ref D)), csl⟩ ∧ clsIn K D = some cdD
  tI : typeIn K (.ref fI) = some (.type "function")
  sup : nsIn K mainGlobals "super" = some none
  thr : nsIn K cStatics "thirdparty.any" = some none
  top : (prog.main.scope.names.lookup ("super" : Str)).isSome = false
/-- an own class under it -/
structure NilC (K : Frag) (C D fI : Addr) : Prop where
  cls : ∃ nm q N bs bm sn sub ab col dd k0 k1 k2 k3 k5, K.lookup C = some (excClassObj nm q C N bs bm true sn sub ab col dd k0 k1 k2 k3 k5 "ValueError.__new__") ∧ PySem.HandSPX.refsVE bm = true
  ini : findIn K (.ref C) "__init__" = some (some (.ref fI))
  sup : ks_superIn K C D "__init__" = some (some (.builtin "ValueError.__init__"))
  sub : mroIn K C (.ref D) = some true
  ve : subIn K (.ref C) (.type "ValueError") = some true
  xin : excInitIn K C [.type "ValueError", .type "Exception", .type "BaseException", .type "object"] "ValueError.__new__" = true
theorem boot_super : bootBuiltins "super" = some (.type "super") := by first | boot_by_name | decide +kernel | rfl
section
variable {prog : Program} {w : World} {A : Around} {R : Result → Shared → Prop} {s : Shared} {K : Frag} {mg mb : Str → Option Value} {C D fI : Addr}
/-- the call of the __init__ on an exception at x that is being made -/
theorem nil_init (S : SupDef prog K fI D) (T : NilC K C D fI) {x t0 : Addr} (X : K.In s.heap) (hxK : K.lookup x = none) (G : s.heap.Ns mainGlobals mg) (Bn : s.heap.Ns builtinsNs mb) (hbb : ∀ z : Str, z ≠ "__name__" → mb z = bootBuiltins z)
    (hlim : s.heap.NoLimit) (hx : s.heap.get? x = some (excObj C t0 none .none)) (hroom : A.depth < recursionLimit)
    (hq : ∀ h' tk t1, (∀ b o, b ≠ x → s.heap.get? b = some o → h'.get? b = some o) → h'.get? x = some (excObj C t1 none .none) → R (.ok (.ret .none)) ⟨h', s.gens, s.drawn, tk, s.os⟩) :
    codeAny (model prog w) A (.call (.ref fI) ⟨[.ref x], []⟩) R s := by
  obtain ⟨oc, od, an, params, qual, dV, kV, doc, pm, ct, cc, cda, osl, p0, p1, ap, cp, ep, ar, ccl, cl, cdd, cld, vs, ccs, csl, file, tf, cdD, lf, hcd, hp, har, hb, hev, lc, hvs, hfile, lcell, hD⟩ := S.ex
  obtain ⟨nm, q, N, bs, bm, sn, sub, ab, col, dd, k0', k1, k2, k3, k5, hC, hbm⟩ := T.cls
  have hsu : hiScope.names.lookup ("super" : Str) = some .globalImplicit := by decide +kernel
  have hcl : hiScope.names.lookup ("__class__" : Str) = some .free := by decide +kernel
  have hse : hiScope.names.lookup ("self" : Str) = some .local := by decide +kernel
  have hnc : ∀ y ∈ hiScope.names, y.2 ≠ .cell := by decide +kernel
  have hk : hiScope.kind = .function := rfl
  have hmg : mg "super" = none := mg_none_of X G S.sup
  obtain ⟨hp0, g, d, tk, os⟩ := s
  have k0 : ∀ b o, (hideAll hp0 [x]).get? b = some o → hp0.get? b = some o := fun b o e => of_hideAll _ e
  have hxn : (hideAll hp0 [x]).get? x = none := hideAll_none _ (by simp)
  have hle : (hideAll hp0 [x]).objs.size = hp0.objs.size := hideAll_size _ _
  have X₀ : K.In (hideAll hp0 [x]) := fun b o e => hideAll_get _ (X b o e) (by
    intro z
    have z' : b = x := by simpa using z
    rw [z', hxK] at e
    cases e)
  refine ks_codeAny_call_defAt (fd := fnX "__init__" qual params [.Expr (.Call (.Attribute (.Call (.Name "super" p0) [] [] p1) "__init__" ap) [] [] cp) ep] hiScope [("__class__", cc)] dV kV doc pm an (.ref cda) ct)
    (binds := [("self", .ref x)]) hroom (X _ _ lf) rfl hlim (codeRec_of X hcd) rfl (.of_eq (hb _)) hnc (fun y hy => ?_) (fun h₁ hns kk => ?_) rfl rfl rfl
  · have e : y = (("self" : Str), Value.ref x) := by simpa using hy
    subst e
    exact hse
  have X1 : K.In h₁ := X.keeps kk
  have hx1 : h₁.get? x = some (excObj C t0 none .none) := kk _ _ hx
  have Lne : hp0.objs.size ≠ x := Nat.ne_of_gt (Heap.lt_size hx)
  obtain ⟨pl, he⟩ := hev hp0.objs.size
  refine ks_wpAt_execs_cons (ks_wpAt_Expr_any (ks_wpAt_MethodCall (pl := pl) ?_ he) (by show interactive _ = false; simp [interactive, callEnv, newEnv, hk]))
  refine ks_wpAt_super_base hsu hcl (by decide) rfl (X1 _ _ lf) rfl hp rfl (X1 _ _ lc) rfl hvs hfile S.top ?_
  have X1' := X1
  refine ks_loadName_global hk hsu (loadGlobal_builtin (G.keeps kk) hmg (Bn.keeps kk) ((hbb _ (by decide)).trans boot_super) ⟨rfl, ?_⟩)
  refine wpAny_loadName_free hk hcl rfl ⟨_, X1 _ _ lcell, rfl⟩ ?_
  refine wpAny_loadName_local hk (by rw [har]; exact hse) hns (by rw [har]; rfl) ?_
  obtain ⟨oD, hD1, hD2⟩ : ∃ oD, h₁.get? D = some oD ∧ oD.data = .cls cdD := by
    unfold clsIn at hD
    split at hD
    · rename_i c d cd' sl ho
      cases hD
      exact ⟨_, X1 _ _ ho, rfl⟩
    · cases hD
  refine ks_wpAny_isType_cls hD1 hD2 ⟨rfl, ?_⟩
  refine ks_wpAny_call_super hD1 hD2 hx1 rfl (fun c e => nomatch e) (looks_mroIn X1 T.sub) (fun h2 e2 kk2 => ?_)
  have X2 : K.In h2 := X1.keeps kk2
  have hx2 := kk2 _ _ hx1
  have I2 : InstAt h2 x (excObj C t0 none .none) C none := ⟨hx2, rfl, rfl, trivial⟩
  have hsup := T.sup
  cases hc : clsIn K C with
  | none =>
    unfold ks_superIn at hsup
    rw [hc] at hsup
    cases hsup
  | some cd =>
    unfold ks_superIn at hsup
    rw [hc] at hsup
    refine kxs_getMethod kxs_ValueError e2 (looks_opaque X2 S.thr) (l₀ := cd.mro) (fun A Q E s k q => wpAny_bind ((looks_clsIn X2 hc) A _ E s k (wpAny_pure q))) rfl X2 hsup
      (I2.type.andThen (looks_subIn X2 T.ve)) (ks_ne X2 I2 hc) (by decide) ?_
    have hu : (h2.push (kxs_mw "ValueError.__init__" x)).get? h2.objs.size = some (kxs_mw "ValueError.__init__" x) := Heap.get?_push_at rfl rfl
    have kk3 : ∀ b o, h2.get? b = some o → (h2.push (kxs_mw "ValueError.__init__" x)).get? b = some o := fun b o e => Heap.get?_push_of_some _ e
    have hx3 := kk3 _ _ hx2
    refine kxs_callWith (i := "ValueError.__init__") (x := x) rfl (evalArgs_empty ⟨hu, ?_⟩)
    show wpAny _ _ (call (.ref h2.objs.size) []) _ _ _
    have ns3 := (hns.keeps kk2).keeps kk3
    have lt2 : x < h2.objs.size := Heap.lt_size hx2
    have L1 : hp0.objs.size < h2.objs.size := by
      obtain ⟨oL, _, _, hL, _⟩ := hns
      exact Heap.lt_size (kk2 _ _ hL)
    have none0 : ∀ b, (hideAll hp0 [x]).objs.size ≤ b → (hideAll hp0 [x]).get? b = none := fun b hb => Heap.get?_none_of_le hb
    have FR : Fr (hideAll hp0 [x]) hp0.objs.size (h2.push (kxs_mw "ValueError.__init__" x)) (fun y => [(("self" : Str), Value.ref x)].reverse.lookup y) :=
      ⟨ns3, fun b o e => kk3 _ _ (kk2 _ _ (kk _ _ (k0 b o e))), Nat.le_of_eq hle⟩
    have NW : News (hideAll hp0 [x]) hp0.objs.size (h2.push (kxs_mw "ValueError.__init__" x)) [(h2.objs.size, kxs_mw "ValueError.__init__" x), (x, excObj C t0 none .none)] := fun p hp => by
      rcases List.mem_cons.mp hp with e | hp
      · subst e
        exact ⟨hu, Nat.ne_of_gt L1, none0 _ (by omega)⟩
      · have e : p = (x, excObj C t0 none .none) := by simpa using hp
        subst e
        exact ⟨hx3, Lne.symm, hxn⟩
    refine kxs_call (s := ⟨h2.push (kxs_mw "ValueError.__init__" x), g, d, _, os⟩) FR X₀ NW F.excBase_ValueError T.xin List.mem_cons_self (.tail (Nat.ne_of_gt lt2) (.head fun p hp => (nomatch hp))) (by show 0 ≤ sizeLine; decide) fun t1 h4 F4 N4 l4 => ?_
    refine wpAt_of_wpAny (wpAny_execs_nil ?_)
    refine hq h4 _ t1 (fun b o hb e => F4.keep b o (hideAll_get _ e (by simpa using hb))) (N4 (x, excObj C t1 none .none) (by simp)).1
/-- X() -/
theorem nil_made (S : SupDef prog K fI D) (T : NilC K C D fI) (X : K.In s.heap) (G : s.heap.Ns mainGlobals mg) (Bn : s.heap.Ns builtinsNs mb) (hbb : ∀ z : Str, z ≠ "__name__" → mb z = bootBuiltins z)
    (hlim : s.heap.NoLimit) (hroom : A.depth + 1 < recursionLimit)
    (hq : ∀ h' tk e t1, (∀ b o, s.heap.get? b = some o → h'.get? b = some o) → s.heap.objs.size ≤ e → h'.get? e = some (excObj C t1 none .none) → R (.ok (.ret (.ref e))) ⟨h', s.gens, s.drawn, tk, s.os⟩) :
    codeAny (model prog w) A (.call (.ref C) ⟨[], []⟩) R s := by
  obtain ⟨nm, q, N, bs, bm, sn, sub, ab, col, dd, k0, k1, k2, k3, k5, hC, hbm⟩ := T.cls
  obtain ⟨h0, g, d, tk, os⟩ := s
  have up : ∀ b o, h0.get? b = some o → ((h0.push (kdv_tup [])).push (PySem.HandSPX.excO C h0.objs.size)).get? b = some o := fun b o e => Heap.get?_push_of_some _ (Heap.get?_push_of_some _ e)
  have at1 : ((h0.push (kdv_tup [])).push (PySem.HandSPX.excO C h0.objs.size)).get? (h0.objs.size + 1) = some (PySem.HandSPX.excO C h0.objs.size) := by heap_get
  have new1 : K.lookup (h0.objs.size + 1) = none := by
    cases e : K.lookup (h0.objs.size + 1) with
    | none => rfl
    | some o => exact absurd (Nat.lt_of_succ_lt (Heap.lt_size (show h0.get? (h0.objs.size + 1) = some o from X _ _ e))) (Nat.lt_irrefl _)
  refine PySem.HandSPX.call_own F.excBase_ValueError (fun Y => PySem.HandSPX.refsVE_contains Y bm hbm) (X _ _ hC) (looks_findIn X T.ini) (fun self => bind_fn X self S.tI) (by show 0 ≤ sizeLine; decide) ?_
  refine nil_init (s := ⟨(h0.push (kdv_tup [])).push (PySem.HandSPX.excO C h0.objs.size), g, d, tk, os⟩) (x := h0.objs.size + 1) S T (X.keeps up) new1 (G.keeps up) (Bn.keeps up) hbb (hlim.keeps up) at1 (by show A.depth + 1 < recursionLimit; exact hroom) fun h2 tk2 t1 k2 e2 => ?_
  refine ⟨rfl, hq h2 tk2 (h0.objs.size + 1) t1 (fun b o e => k2 b o (Nat.ne_of_lt (Nat.lt_succ_of_lt (Heap.lt_size e))) (up b o e)) (Nat.le_succ _) e2⟩
end
open L2 in
/-- what the top has of an own error without arguments -/
structure NilX (prog : Program) (K : Frag) (mg : Str → Option Value) (x : Str) (C : Addr) : Prop where
  gC : mg x = some (.ref C)
  kC : keepIn K (.ref C) = true
  exC : subIn K (.ref C) (.type "BaseException") = some true
  tyC : typeIn K (.ref C) = some (.type "type")
  sd : ∃ D fI, SupDef prog K fI D ∧ NilC K C D fI
open L2 in
def tNil0 (C : Addr) : L2.St → Hp → XK → Prop := fun _ H Q => Q (.ref C) none H
open L2 in
theorem pmk_nil {X : Cx} {x : Str} {C : Addr} {k : Nat} {p pos : Pos} (T : NilX X.prog X.K X.mg x C) (hr : Room k X.A) (hg : Gl X x) (hd : (x == ("__debug__" : Str)) = false := by decide) : PMk X (.Call (.Name x p) [] [] pos) (tNil0 C) := by
  obtain ⟨D, fI, S, N⟩ := T.sd
  intro pins s σ H Q I h
  refine wpAny_Call_Name_kw (ld_glob I hg T.gC ?_ hd)
  refine callWith_K0 I.kIn T.kC ?_
  show wpAny _ _ (call (.ref C) []) _ _ _
  obtain ⟨mb, b1, b2⟩ := I.mod.blt
  refine wpAny_call (nil_made S N I.kIn (I.mod.glob.keeps I.bk) (b1.keeps I.bk) b2 I.nolimit (by have := hr.dp; omega) fun h' tk e t1 kk le he => ?_)
  have nw : s.heap.get? e = none := Heap.get?_none_of_le le
  exact ⟨e, _, _, s, H, .ref C, none, rfl, I, kk, nw, he, ⟨rfl, rfl⟩, rfl, rfl, I.hok.fresh le, rfl, I.bare, raises_own T.exC T.tyC, h⟩
end Hd
set_option maxHeartbeats 4000000
/-! Steps of heaps, plans that can be made: numbers alone. -/
namespace Hd
open PySem PySem.Spec PyProof.Rows L2
def can (ns : List Int) (i j : Nat) : Bool := decide (0 < ns.getD j 0) && decide (ns.getD j 0 ≤ ns.getD i 0)
def shf (ns : List Int) (i j : Nat) (m : Int) : List Int := (ns.set i (ns.getD i 0 - m)).set j (ns.getD j 0 + m)
def mv (ns : List Int) (i j : Nat) : List Int := shf ns i j (ns.getD j 0)
theorem can_iff {ns : List Int} {i j : Nat} : can ns i j = true ↔ 0 < ns.getD j 0 ∧ ns.getD j 0 ≤ ns.getD i 0 := by
  unfold can
  simp only [Bool.and_eq_true, decide_eq_true_eq]
theorem len_mv (ns : List Int) (i j : Nat) : (mv ns i j).length = ns.length := by
  unfold mv shf
  rw [List.length_set, List.length_set]
theorem getD_set {ns : List Int} {i k : Nat} {v : Int} : (ns.set i v).getD k 0 = if k = i ∧ i < ns.length then v else ns.getD k 0 := by
  rw [List.getD_eq_getElem?_getD, List.getElem?_set, List.getD_eq_getElem?_getD]
  by_cases h : i = k
  · subst h
    rw [if_pos rfl]
    by_cases h2 : i < ns.length
    · rw [if_pos h2, if_pos ⟨rfl, h2⟩]
      rfl
    · rw [if_neg h2, if_neg fun z => h2 z.2, List.getElem?_eq_none (by omega)]
  · rw [if_neg h, if_neg fun z => h z.1.symm]
theorem getD_mv {ns : List Int} {i j k : Nat} (hi : i < ns.length) (hj : j < ns.length) (hij : i ≠ j) : (mv ns i j).getD k 0 = if k = j then 2 * ns.getD j 0 else if k = i then ns.getD i 0 - ns.getD j 0 else ns.getD k 0 := by
  unfold mv shf
  rw [getD_set, getD_set, List.length_set]
  by_cases h : k = j
  · rw [if_pos ⟨h, hj⟩, if_pos h]
    omega
  · rw [if_neg fun z => h z.1, if_neg h]
    by_cases h2 : k = i
    · rw [if_pos ⟨h2, hi⟩, if_pos h2]
    · rw [if_neg fun z => h2 z.1, if_neg h2]
/-- nothing below 0 -/
def NN (ns : List Int) : Prop := ∀ k, 0 ≤ ns.getD k 0
theorem nn_of {ns : List Int} (h : ∀ n ∈ ns, 0 ≤ n) : NN ns := fun k => by
  rw [List.getD_eq_getElem?_getD]
  cases e : ns[k]? with
  | none => exact Int.le_refl _
  | some v => exact h v (List.mem_of_getElem? e)
theorem NN.mem {ns : List Int} (h : NN ns) : ∀ n ∈ ns, 0 ≤ n := fun n hn => by
  obtain ⟨k, hk, e⟩ := List.mem_iff_getElem.mp hn
  have := h k
  rw [List.getD_eq_getElem?_getD, List.getElem?_eq_getElem hk] at this
  rw [← e]
  exact this
theorem NN.mv {ns : List Int} {i j : Nat} (h : NN ns) (hi : i < ns.length) (hj : j < ns.length) (hij : i ≠ j) (hc : can ns i j = true) : NN (mv ns i j) := fun k => by
  rw [getD_mv hi hj hij]
  obtain ⟨c1, c2⟩ := can_iff.mp hc
  have := h k
  split
  · omega
  · split <;> omega
theorem sum_set : ∀ (ns : List Int) (i : Nat) (v : Int), i < ns.length → (ns.set i v).sum = ns.sum + v - ns.getD i 0
  | [], i, v, h => absurd h (by simp)
  | x :: r, 0, v, _ => by
    simp only [List.set_cons_zero, List.sum_cons, List.getD_cons_zero]
    omega
  | x :: r, i + 1, v, h => by
    simp only [List.set_cons_succ, List.sum_cons, List.getD_cons_succ]
    rw [sum_set r i v (by simpa using h)]
    omega
theorem sum_mv {ns : List Int} {i j : Nat} (hi : i < ns.length) (hj : j < ns.length) (hij : i ≠ j) : (mv ns i j).sum = ns.sum := by
  unfold Hd.mv shf
  rw [sum_set _ _ _ (by rw [List.length_set]; exact hj), sum_set _ _ _ hi, getD_set, if_neg fun z => hij z.1.symm]
  omega
/-- the whole is at least what lies at unlike places -/
theorem sum_ge : ∀ (ns : List Int), NN ns → 0 ≤ ns.sum
  | [], _ => by simp
  | x :: r, h => by
    have := h 0
    have := sum_ge r fun k => by simpa using h (k + 1)
    simp only [List.sum_cons, List.getD_cons_zero] at *
    omega
theorem sum_del (ns : List Int) (i : Nat) (h : NN ns) (hi : i < ns.length) : (ns.set i 0).sum = ns.sum - ns.getD i 0 ∧ NN (ns.set i 0) := by
  refine ⟨by rw [sum_set _ _ _ hi]; omega, fun k => ?_⟩
  rw [getD_set]
  split
  · exact Int.le_refl _
  · exact h k
theorem sum_one {ns : List Int} {i : Nat} (h : NN ns) : ns.getD i 0 ≤ ns.sum := by
  by_cases hi : i < ns.length
  · obtain ⟨e, n⟩ := sum_del ns i h hi
    have := sum_ge _ n
    omega
  · rw [List.getD_eq_getElem?_getD, List.getElem?_eq_none (by omega)]
    exact sum_ge _ h
theorem sum_three {ns : List Int} {i j k : Nat} (h : NN ns) (hi : i < ns.length) (hj : j < ns.length) (hk : k < ns.length) (hij : i ≠ j) (hik : i ≠ k) (hjk : j ≠ k) : ns.getD i 0 + ns.getD j 0 + ns.getD k 0 ≤ ns.sum := by
  obtain ⟨e1, n1⟩ := sum_del ns i h hi
  obtain ⟨e2, n2⟩ := sum_del (ns.set i 0) j n1 (by rw [List.length_set]; exact hj)
  have e3 := sum_one (i := k) n2
  rw [getD_set, if_neg fun z => hjk z.1.symm, getD_set, if_neg fun z => hik z.1.symm] at e3
  rw [getD_set, if_neg fun z => hij z.1.symm] at e2
  omega
/-- a plan all of whose steps can be made -/
def run : List Int → List (Nat × Nat) → Option (List Int)
  | ns, [] => some ns
  | ns, s :: r => if can ns s.1 s.2 = true then run (mv ns s.1 s.2) r else none
theorem run_app : ∀ (ps : List (Nat × Nat)) (ns : List Int) (qs : List (Nat × Nat)), run ns (ps ++ qs) = (run ns ps).bind fun m => run m qs
  | [], ns, qs => rfl
  | p :: ps, ns, qs => by
    show (if can ns p.1 p.2 = true then run (mv ns p.1 p.2) (ps ++ qs) else none) = (if can ns p.1 p.2 = true then run (mv ns p.1 p.2) ps else none).bind _
    split
    · exact run_app ps _ qs
    · rfl
/-- the steps are of so many heaps -/
def Stp (n : Nat) (ps : List (Nat × Nat)) : Prop := ∀ p ∈ ps, p.1 < n ∧ p.2 < n ∧ p.1 ≠ p.2
theorem Stp.app {n : Nat} {ps qs : List (Nat × Nat)} (a : Stp n ps) (b : Stp n qs) : Stp n (ps ++ qs) := fun p hp => (List.mem_append.mp hp).elim (a p) (b p)
structure Gone (ns : List Int) (ps : List (Nat × Nat)) (m : List Int) : Prop where
  run : run ns ps = some m
  stp : Stp ns.length ps
theorem Gone.nil (ns : List Int) : Gone ns [] ns := ⟨rfl, fun p hp => nomatch hp⟩
theorem run_keeps : ∀ (ps : List (Nat × Nat)) (ns m : List Int), Stp ns.length ps → Hd.run ns ps = some m → m.length = ns.length ∧ m.sum = ns.sum ∧ (NN ns → NN m) ∧ (∀ g : Int, (∀ k, g ∣ ns.getD k 0) → ∀ k, g ∣ m.getD k 0)
  | [], ns, m, _, e => by
    have e' : ns = m := Option.some.inj e
    subst e'
    exact ⟨rfl, rfl, id, fun _ h => h⟩
  | p :: ps, ns, m, st, e => by
    obtain ⟨a, b, c⟩ := st p List.mem_cons_self
    have e' : (if can ns p.1 p.2 = true then Hd.run (Hd.mv ns p.1 p.2) ps else none) = some m := e
    by_cases hc : can ns p.1 p.2 = true
    · rw [if_pos hc] at e'
      obtain ⟨h1, h2, h3, h4⟩ := run_keeps ps (Hd.mv ns p.1 p.2) m (fun q hq => by rw [len_mv]; exact st q (List.mem_cons_of_mem _ hq)) e'
      rw [len_mv] at h1
      rw [sum_mv a b c] at h2
      refine ⟨h1, h2, fun n => h3 (n.mv a b c hc), fun g hg => h4 g fun k => ?_⟩
      rw [getD_mv a b c]
      split
      · exact Int.dvd_trans (hg p.2) (Int.dvd_mul_left _ _)
      · split
        · exact Int.dvd_sub (hg _) (hg _)
        · exact hg k
    · rw [if_neg hc] at e'
      cases e'
theorem Gone.len {ns m : List Int} {ps : List (Nat × Nat)} (h : Gone ns ps m) : m.length = ns.length := (run_keeps ps ns m h.stp h.run).1
theorem Gone.sum {ns m : List Int} {ps : List (Nat × Nat)} (h : Gone ns ps m) : m.sum = ns.sum := (run_keeps ps ns m h.stp h.run).2.1
theorem Gone.nn {ns m : List Int} {ps : List (Nat × Nat)} (h : Gone ns ps m) (n : NN ns) : NN m := (run_keeps ps ns m h.stp h.run).2.2.1 n
theorem Gone.dvd {ns m : List Int} {ps : List (Nat × Nat)} (h : Gone ns ps m) {g : Int} (n : ∀ k, g ∣ ns.getD k 0) : ∀ k, g ∣ m.getD k 0 := (run_keeps ps ns m h.stp h.run).2.2.2 g n
theorem Gone.app {ns m r : List Int} {ps qs : List (Nat × Nat)} (a : Gone ns ps m) (b : Gone m qs r) : Gone ns (ps ++ qs) r := by
  refine ⟨?_, a.stp.app ?_⟩
  · rw [run_app, a.run]
    exact b.run
  · rw [← a.len]
    exact b.stp
theorem Gone.one {ns : List Int} {i j : Nat} (hi : i < ns.length) (hj : j < ns.length) (hij : i ≠ j) (hc : can ns i j = true) : Gone ns [(i, j)] (Hd.mv ns i j) := by
  refine ⟨?_, fun p hp => ?_⟩
  · show (if can ns i j = true then some (Hd.mv ns i j) else none) = _
    rw [if_pos hc]
  · have e : p = (i, j) := by simpa using hp
    subst e
    exact ⟨hi, hj, hij⟩
/-! ### halving -/
/-- the state within halving: q the figures left, r those that are through, e the weight; the heaps ns at lo, mi, hi are m's there -/
structure Hv (ns : List Int) (lo mi hi : Nat) (p q r e : Int) (ps : List (Nat × Nat)) (m : List Int) : Prop where
  go : Gone ns ps m
  pq : p = q * e + r
  r0 : 0 ≤ r
  re : r < e
  q1 : 1 ≤ q
  len : e = 2 ^ ps.length
  lo_ : m.getD lo 0 = e * ns.getD lo 0
  mi_ : m.getD mi 0 = ns.getD mi 0 - r * ns.getD lo 0
  hi_ : m.getD hi 0 = ns.getD hi 0 - (e - 1 - r) * ns.getD lo 0
  un : ∀ k, k ≠ lo → k ≠ mi → k ≠ hi → m.getD k 0 = ns.getD k 0
/-- three heaps, the least first -/
structure Three (ns : List Int) (lo mi hi : Nat) : Prop where
  blo : lo < ns.length
  bmi : mi < ns.length
  bhi : hi < ns.length
  n1 : lo ≠ mi
  n2 : lo ≠ hi
  n3 : mi ≠ hi
  pos : 0 < ns.getD lo 0
  le1 : ns.getD lo 0 ≤ ns.getD mi 0
  le2 : ns.getD mi 0 ≤ ns.getD hi 0
theorem near_ok {a b : Int} (ha : 0 < a) (hab : a ≤ b) : 1 ≤ (2 * b + a - 1) / (2 * a) ∧ -a < 2 * b - 2 * ((2 * b + a - 1) / (2 * a) * a) ∧ 2 * b - 2 * ((2 * b + a - 1) / (2 * a) * a) ≤ a := by
  have h1 := Int.mul_ediv_add_emod (2 * b + a - 1) (2 * a)
  have h2 := Int.emod_nonneg (2 * b + a - 1) (show 2 * a ≠ 0 by omega)
  have h3 := Int.emod_lt_of_pos (2 * b + a - 1) (show 0 < 2 * a by omega)
  have h4 : 1 ≤ (2 * b + a - 1) / (2 * a) := by
    rw [Int.le_ediv_iff_mul_le (by omega)]
    omega
  have h5 : 2 * a * ((2 * b + a - 1) / (2 * a)) = 2 * ((2 * b + a - 1) / (2 * a) * a) := by
    rw [Int.mul_assoc, Int.mul_comm a]
  rw [h5] at h1
  refine ⟨h4, by omega, by omega⟩
theorem Hv.start {ns : List Int} {lo mi hi : Nat} {p : Int} (hp : 1 ≤ p) : Hv ns lo mi hi p p 0 1 [] ns :=
  ⟨.nil _, by omega, by omega, by omega, hp, rfl, by omega, by omega, by omega, fun _ _ _ _ => rfl⟩
theorem Hv.next {ns m : List Int} {lo mi hi : Nat} {p q r e : Int} {ps : List (Nat × Nat)} (T : Three ns lo mi hi) (h : Hv ns lo mi hi p q r e ps m) (hpa : (p - 1) * ns.getD lo 0 ≤ ns.getD mi 0) (hq : 1 < q) (g : Nat) (hg : g = if q % 2 = 1 then mi else hi) :
    Hv ns lo mi hi p (q / 2) (if q % 2 = 1 then r + e else r) (2 * e) (ps ++ [(g, lo)]) (mv m g lo) := by
  have hlen := h.go.len
  have a0 := T.pos
  have e1 : q = 2 * (q / 2) + q % 2 := by omega
  have hq2 : 1 ≤ q / 2 := by omega
  have he : 0 < e := by
    have := h.r0
    have := h.re
    omega
  have pe : 2 * e ≤ (q / 2) * (2 * e) := by
    have := Int.mul_le_mul_of_nonneg_right hq2 (show 0 ≤ 2 * e by omega)
    omega
  have r0 := h.r0
  have re := h.re
  have ea : 0 < e * ns.getD lo 0 := Int.mul_pos he a0
  have d2 : 2 * e * ns.getD lo 0 = 2 * (e * ns.getD lo 0) := Int.mul_assoc _ _ _
  have hlo : lo < m.length := by rw [hlen]; exact T.blo
  by_cases hb : q % 2 = 1
  · rw [if_pos hb] at hg
    subst hg
    rw [if_pos hb]
    have ep : p = (q / 2) * (2 * e) + (r + e) := by
      have : q * e = (q / 2) * (2 * e) + e := by
        rw (occs := [1]) [e1]
        rw [hb, Int.add_mul, Int.one_mul, Int.mul_comm 2, Int.mul_assoc]
      have := h.pq
      omega
    have k1 : (r + e) * ns.getD lo 0 ≤ (p - 1) * ns.getD lo 0 := Int.mul_le_mul_of_nonneg_right (by omega) (by omega)
    have k2 : (r + e) * ns.getD lo 0 = r * ns.getD lo 0 + e * ns.getD lo 0 := Int.add_mul _ _ _
    have k3 : (2 * e - 1 - (r + e)) = e - 1 - r := by omega
    have hmi : g < m.length := by rw [hlen]; exact T.bmi
    have hc : can m g lo = true := can_iff.mpr (by rw [h.lo_, h.mi_]; omega)
    refine ⟨h.go.app (.one hmi hlo (Ne.symm T.n1) hc), ep, by omega, by omega, hq2, ?_, ?_, ?_, ?_, fun k x1 x2 x3 => ?_⟩
    · rw [List.length_append, h.len]
      show 2 * 2 ^ ps.length = 2 ^ (ps.length + 1)
      rw [Int.pow_succ, Int.mul_comm]
    · rw [getD_mv hmi hlo (Ne.symm T.n1), if_pos rfl, h.lo_, d2]
    · rw [getD_mv hmi hlo (Ne.symm T.n1), if_neg (Ne.symm T.n1), if_pos rfl, h.lo_, h.mi_, k2]
      omega
    · rw [getD_mv hmi hlo (Ne.symm T.n1), if_neg (Ne.symm T.n2), if_neg (Ne.symm T.n3), h.hi_, k3]
    · rw [getD_mv hmi hlo (Ne.symm T.n1), if_neg x1, if_neg x2]
      exact h.un k x1 x2 x3
  · rw [if_neg hb] at hg
    subst hg
    rw [if_neg hb]
    have ep : p = (q / 2) * (2 * e) + r := by
      have : q * e = (q / 2) * (2 * e) := by
        rw (occs := [1]) [e1]
        rw [show q % 2 = 0 by omega, Int.add_zero, Int.mul_comm 2, Int.mul_assoc]
      have := h.pq
      omega
    have k1 : (2 * e - 1 - r) * ns.getD lo 0 ≤ (p - 1) * ns.getD lo 0 := Int.mul_le_mul_of_nonneg_right (by omega) (by omega)
    have k2 : (2 * e - 1 - r) * ns.getD lo 0 = (e - 1 - r) * ns.getD lo 0 + e * ns.getD lo 0 := by
      rw [← Int.add_mul]
      congr 1
      omega
    have le2 := T.le2
    have hhi : g < m.length := by rw [hlen]; exact T.bhi
    have hc : can m g lo = true := can_iff.mpr (by rw [h.lo_, h.hi_]; omega)
    refine ⟨h.go.app (.one hhi hlo (Ne.symm T.n2) hc), ep, by omega, by omega, hq2, ?_, ?_, ?_, ?_, fun k x1 x2 x3 => ?_⟩
    · rw [List.length_append, h.len]
      show 2 * 2 ^ ps.length = 2 ^ (ps.length + 1)
      rw [Int.pow_succ, Int.mul_comm]
    · rw [getD_mv hhi hlo (Ne.symm T.n2), if_pos rfl, h.lo_, d2]
    · rw [getD_mv hhi hlo (Ne.symm T.n2), if_neg (Ne.symm T.n1), if_neg T.n3, h.mi_]
    · rw [getD_mv hhi hlo (Ne.symm T.n2), if_neg (Ne.symm T.n2), if_pos rfl, h.lo_, h.hi_, k2]
      omega
    · rw [getD_mv hhi hlo (Ne.symm T.n2), if_neg x1, if_neg x3]
      exact h.un k x1 x2 x3
/-- what halving is for: at one of the three places at most half of the least, elsewhere nothing new; so many steps that 2 to their number is at most the whole -/
structure Halved (ns : List Int) (lo mi hi : Nat) (ps : List (Nat × Nat)) (m : List Int) : Prop where
  go : Gone ns ps m
  half : ∃ k, (k = lo ∨ k = mi ∨ k = hi) ∧ 2 * m.getD k 0 ≤ ns.getD lo 0
  un : ∀ k, k ≠ lo → k ≠ mi → k ≠ hi → m.getD k 0 = ns.getD k 0
  len : (2 : Int) ^ ps.length ≤ ns.sum
theorem Hv.end {ns m : List Int} {lo mi hi : Nat} {p r e : Int} {ps : List (Nat × Nat)} (N : NN ns) (T : Three ns lo mi hi) (h : Hv ns lo mi hi p 1 r e ps m) (n1 : -ns.getD lo 0 < 2 * ns.getD mi 0 - 2 * (p * ns.getD lo 0)) (n2 : 2 * ns.getD mi 0 - 2 * (p * ns.getD lo 0) ≤ ns.getD lo 0) :
    Halved ns lo mi hi (ps ++ [if p * ns.getD lo 0 > ns.getD mi 0 then (lo, mi) else (mi, lo)]) (if p * ns.getD lo 0 > ns.getD mi 0 then mv m lo mi else mv m mi lo) := by
  have hlen := h.go.len
  have a0 := T.pos
  have r0 := h.r0
  have re := h.re
  have he : 0 < e := by omega
  have hlo : lo < m.length := by rw [hlen]; exact T.blo
  have hmi : mi < m.length := by rw [hlen]; exact T.bmi
  have ep : p = e + r := by
    have := h.pq
    omega
  have k1 : p * ns.getD lo 0 = e * ns.getD lo 0 + r * ns.getD lo 0 := by rw [ep, Int.add_mul]
  have k2 : 1 * ns.getD lo 0 ≤ e * ns.getD lo 0 := Int.mul_le_mul_of_nonneg_right (by omega) (by omega)
  have s3 := sum_three N T.blo T.bmi T.bhi T.n1 T.n2 T.n3
  have le2 := T.le2
  have elen : (2 : Int) ^ (ps.length + 1) ≤ ns.sum := by
    have q1 : (2 : Int) ^ (ps.length + 1) = 2 * e := by rw [Int.pow_succ, ← h.len, Int.mul_comm]
    have q2 : p * 1 ≤ p * ns.getD lo 0 := Int.mul_le_mul_of_nonneg_left (by omega) (by omega)
    omega
  by_cases hs : p * ns.getD lo 0 > ns.getD mi 0
  · rw [if_pos hs, if_pos hs]
    have hc : can m lo mi = true := can_iff.mpr (by rw [h.lo_, h.mi_]; omega)
    refine ⟨h.go.app (.one hlo hmi T.n1 hc), ⟨lo, .inl rfl, ?_⟩, fun k x1 x2 x3 => ?_, by rw [List.length_append]; exact elen⟩
    · rw [getD_mv hlo hmi T.n1, if_neg T.n1, if_pos rfl, h.lo_, h.mi_]
      omega
    · rw [getD_mv hlo hmi T.n1, if_neg x2, if_neg x1]
      exact h.un k x1 x2 x3
  · rw [if_neg hs, if_neg hs]
    have hc : can m mi lo = true := can_iff.mpr (by rw [h.lo_, h.mi_]; omega)
    refine ⟨h.go.app (.one hmi hlo (Ne.symm T.n1) hc), ⟨mi, .inr (.inl rfl), ?_⟩, fun k x1 x2 x3 => ?_, by rw [List.length_append]; exact elen⟩
    · rw [getD_mv hmi hlo (Ne.symm T.n1), if_neg (Ne.symm T.n1), if_pos rfl, h.lo_, h.mi_]
      omega
    · rw [getD_mv hmi hlo (Ne.symm T.n1), if_neg x1, if_neg x2]
      exact h.un k x1 x2 x3
end Hd
set_option maxHeartbeats 4000000
/-! Emptying one of three, all but two, all but one: numbers alone. -/
namespace Hd
open PySem PySem.Spec PyProof.Rows L2
/-! ### the heaps that are not empty -/
def fil (ns : List Int) : List Nat := (List.range ns.length).filter fun k => decide (0 < ns.getD k 0)
theorem mem_fil {ns : List Int} {k : Nat} : k ∈ fil ns ↔ k < ns.length ∧ 0 < ns.getD k 0 := by
  unfold fil
  rw [List.mem_filter, List.mem_range, decide_eq_true_eq]
theorem fil_sorted (ns : List Int) : (fil ns).Pairwise (· < ·) := List.Pairwise.filter _ List.pairwise_lt_range
theorem fil_le (ns : List Int) : (fil ns).length ≤ ns.length := Nat.le_trans (List.length_filter_le _ _) (by rw [List.length_range]; exact Nat.le_refl _)
theorem filter_lt {α : Type} {p q : α → Bool} : ∀ {l : List α}, (∀ x ∈ l, q x = true → p x = true) → (∃ x ∈ l, p x = true ∧ q x = false) → (l.filter q).length < (l.filter p).length
  | [], _, h => by
    obtain ⟨x, hx, _⟩ := h
    cases hx
  | x :: l, h1, h2 => by
    have ih : (l.filter q).length ≤ (l.filter p).length := by
      rw [← List.countP_eq_length_filter, ← List.countP_eq_length_filter]
      exact List.countP_mono_left fun y hy => h1 y (List.mem_cons_of_mem _ hy)
    rw [List.filter_cons, List.filter_cons]
    obtain ⟨y, hy, y1, y2⟩ := h2
    rcases List.mem_cons.mp hy with e | hy
    · subst e
      rw [y1, y2, if_pos rfl, if_neg (by decide)]
      exact Nat.lt_succ_of_le ih
    · have := filter_lt (l := l) (fun z hz => h1 z (List.mem_cons_of_mem _ hz)) ⟨y, hy, y1, y2⟩
      by_cases hq : q x = true
      · rw [if_pos hq, if_pos (h1 x List.mem_cons_self hq)]
        exact Nat.succ_lt_succ this
      · rw [if_neg hq]
        split
        · exact Nat.lt_succ_of_lt this
        · exact this
theorem fil_lt {ns m : List Int} (hl : m.length = ns.length) (h1 : ∀ k, 0 < m.getD k 0 → 0 < ns.getD k 0) (h2 : ∃ k, k < ns.length ∧ 0 < ns.getD k 0 ∧ m.getD k 0 ≤ 0) : (fil m).length < (fil ns).length := by
  unfold fil
  rw [hl]
  refine filter_lt (fun k _ h => decide_eq_true (h1 k (of_decide_eq_true h))) ?_
  obtain ⟨k, a, b, c⟩ := h2
  exact ⟨k, List.mem_range.mpr a, decide_eq_true b, decide_eq_false (by omega)⟩
theorem sum_zero : ∀ ns : List Int, (∀ k, ns.getD k 0 = 0) → ns.sum = 0
  | [], _ => rfl
  | x :: r, h => by
    have h0 := h 0
    have hr := sum_zero r fun k => by simpa using h (k + 1)
    simp only [List.getD_cons_zero] at h0
    simp only [List.sum_cons]
    omega
theorem sum_two {ns : List Int} {i j : Nat} (hi : i < ns.length) (hj : j < ns.length) (hij : i ≠ j) (h : ∀ k, k ≠ i → k ≠ j → ns.getD k 0 = 0) : ns.sum = ns.getD i 0 + ns.getD j 0 := by
  have e1 := sum_set ns i 0 hi
  have e2 := sum_set (ns.set i 0) j 0 (by rw [List.length_set]; exact hj)
  rw [getD_set, if_neg fun z => hij z.1.symm] at e2
  have e3 := sum_zero ((ns.set i 0).set j 0) fun k => by
    rw [getD_set, getD_set, List.length_set]
    by_cases a : k = j
    · rw [if_pos ⟨a, hj⟩]
    · rw [if_neg fun z => a z.1]
      by_cases b : k = i
      · rw [if_pos ⟨b, hi⟩]
      · rw [if_neg fun z => b z.1]
        exact h k b a
  omega
/-! ### one of three -/
/-- k is one of the three -/
def In3 (x y z k : Nat) : Prop := k = x ∨ k = y ∨ k = z
structure Trio (ns : List Int) (x y z : Nat) : Prop where
  bx : x < ns.length
  by_ : y < ns.length
  bz : z < ns.length
  n1 : x ≠ y
  n2 : x ≠ z
  n3 : y ≠ z
/-- so far within emptying: t halvings are done -/
structure Em (ns : List Int) (x y z : Nat) (F t : Nat) (ps : List (Nat × Nat)) (m : List Int) : Prop where
  go : Gone ns ps m
  le : ∃ k, In3 x y z k ∧ 2 ^ t * m.getD k 0 ≤ ns.sum
  un : ∀ k, ¬ In3 x y z k → m.getD k 0 = ns.getD k 0
  len : ps.length ≤ t * F
  tF : t ≤ F
theorem Em.start {ns : List Int} {x y z F : Nat} (N : NN ns) : Em ns x y z F 0 [] ns :=
  ⟨.nil _, ⟨x, .inl rfl, by have := sum_one (i := x) N; simpa using this⟩, fun _ _ => rfl, Nat.zero_le _, Nat.zero_le _⟩
theorem two_le {k F : Nat} {S : Int} (h : (2 : Int) ^ k ≤ S) (hS : S < 2 ^ F) : k < F := by
  by_cases c : k < F
  · exact c
  · have : (2 : Int) ^ F ≤ 2 ^ k := by
      have := Nat.pow_le_pow_right (show 0 < 2 by decide) (show F ≤ k by omega)
      have e : ∀ n : Nat, (2 : Int) ^ n = ((2 ^ n : Nat) : Int) := fun n => by simp
      rw [e, e]
      exact Int.ofNat_le.mpr this
    omega
/-- one halving more: the places in the order lo, mi, hi -/
theorem Em.next {ns m r : List Int} {x y z F t lo mi hi : Nat} {ps qs : List (Nat × Nat)} (h : Em ns x y z F t ps m) (hF : ns.sum < 2 ^ F) (hpos : ∀ k, In3 x y z k → 0 < m.getD k 0) (hin : ∀ k, In3 x y z k ↔ In3 lo mi hi k)
    (hlo : ∀ k, In3 x y z k → m.getD lo 0 ≤ m.getD k 0) (hv : Halved m lo mi hi qs r) : t < F ∧ Em ns x y z F (t + 1) (ps ++ qs) r := by
  obtain ⟨k, k1, k2⟩ := h.le
  have p2 : (0 : Int) < 2 ^ t := Int.pow_pos (by decide)
  have t1 : (2 : Int) ^ t * 1 ≤ 2 ^ t * m.getD k 0 := Int.mul_le_mul_of_nonneg_left (by have := hpos k k1; omega) (by omega)
  have ht : t < F := two_le (by omega) hF
  refine ⟨ht, h.go.app hv.go, ?_, fun j hj => ?_, ?_, ht⟩
  · obtain ⟨j, j1, j2⟩ := hv.half
    refine ⟨j, (hin j).mpr j1, ?_⟩
    have a1 : (2 : Int) ^ (t + 1) * r.getD j 0 = 2 ^ t * (2 * r.getD j 0) := by rw [Int.pow_succ, Int.mul_assoc]
    have a2 : (2 : Int) ^ t * (2 * r.getD j 0) ≤ 2 ^ t * m.getD k 0 := Int.mul_le_mul_of_nonneg_left (by have := hlo k k1; omega) (by omega)
    omega
  · rw [hv.un j (fun e => hj ((hin j).mpr (.inl e))) (fun e => hj ((hin j).mpr (.inr (.inl e)))) (fun e => hj ((hin j).mpr (.inr (.inr e))))]
    exact h.un j hj
  · have hl := hv.len
    rw [h.go.sum] at hl
    have := two_le hl hF
    rw [List.length_append, Nat.add_mul]
    have := h.len
    omega
/-- what emptying is for -/
structure Emptied (ns : List Int) (F : Nat) (ps : List (Nat × Nat)) (m : List Int) : Prop where
  go : Gone ns ps m
  fewer : (fil m).length < (fil ns).length
  zero : ∃ k, k < ns.length ∧ m.getD k 0 = 0
  len : ps.length ≤ F * F
theorem Em.end {ns m : List Int} {x y z F t : Nat} {ps : List (Nat × Nat)} (N : NN ns) (T : Trio ns x y z) (hpos : ∀ k, In3 x y z k → 0 < ns.getD k 0) (h : Em ns x y z F t ps m) (k : Nat) (hk : In3 x y z k) (hz : m.getD k 0 ≤ 0) : Emptied ns F ps m := by
  have hkl : k < ns.length := by
    rcases hk with e | e | e <;> subst e
    · exact T.bx
    · exact T.by_
    · exact T.bz
  refine ⟨h.go, fil_lt h.go.len (fun j hj => ?_) ⟨k, hkl, hpos k hk, hz⟩, ⟨k, hkl, ?_⟩, Nat.le_trans h.len (Nat.mul_le_mul_right F h.tF)⟩
  · by_cases c : In3 x y z j
    · exact hpos j c
    · rw [← h.un j c]
      exact hj
  · have := h.go.nn N k
    omega
/-! ### all but two -/
structure Pr (ns : List Int) (F : Nat) (ps : List (Nat × Nat)) (m : List Int) : Prop where
  go : Gone ns ps m
  len : ps.length + (fil m).length * (F * F) ≤ (fil ns).length * (F * F)
theorem Pr.start (ns : List Int) (F : Nat) : Pr ns F [] ns := ⟨.nil _, by simp⟩
theorem Pr.next {ns m r : List Int} {F : Nat} {ps qs : List (Nat × Nat)} (h : Pr ns F ps m) (e : Emptied m F qs r) : Pr ns F (ps ++ qs) r ∧ (fil r).length < (fil m).length := by
  refine ⟨⟨h.go.app e.go, ?_⟩, e.fewer⟩
  have a := Nat.mul_le_mul_right (F * F) (show (fil r).length + 1 ≤ (fil m).length from e.fewer)
  rw [Nat.add_mul, Nat.one_mul] at a
  rw [List.length_append]
  have := h.len
  have := e.len
  omega
/-! ### all but one -/
theorem pow_dvd_le {a b : Nat} (h : a ≤ b) (g : Int) : g * 2 ^ a ∣ g * 2 ^ b := by
  refine Int.mul_dvd_mul_left g ?_
  rw [← Nat.add_sub_cancel' h, Int.pow_add]
  exact Int.dvd_mul_right _ _
/-- so far within the walk of the two: m is where it stands behind t steps; g times 2 to the T is the whole -/
structure Wk (ns : List Int) (g : Int) (T t : Nat) (ps : List (Nat × Nat)) (m : List Int) : Prop where
  go : Gone ns ps m
  len : ps.length = t
  dv : ∀ k, g * 2 ^ t ∣ m.getD k 0
  two : (fil m).length ≤ 2
  tT : t ≤ T
theorem Wk.start {ns : List Int} {g : Int} {T : Nat} (hg : ∀ k, g ∣ ns.getD k 0) (h2 : (fil ns).length ≤ 2) : Wk ns g T 0 [] ns :=
  ⟨.nil _, rfl, fun k => by simpa using hg k, h2, Nat.zero_le _⟩
theorem Wk.pair {ns m : List Int} {g : Int} {T t : Nat} {ps : List (Nat × Nat)} (N : NN ns) (h : Wk ns g T t ps m) (h1 : 1 < (fil m).length) : ∃ i j, fil m = [i, j] ∧ i < m.length ∧ j < m.length ∧ i ≠ j ∧ 0 < m.getD i 0 ∧ 0 < m.getD j 0 ∧ m.getD i 0 + m.getD j 0 = ns.sum ∧ (∀ k, k ≠ i → k ≠ j → m.getD k 0 = 0) := by
  have h2 := h.two
  have hs := fil_sorted m
  match e : fil m, h1, h2 with
  | [i, j], _, _ =>
    have mi := (mem_fil (ns := m) (k := i)).mp (by rw [e]; simp)
    have mj := (mem_fil (ns := m) (k := j)).mp (by rw [e]; simp)
    have hij : i ≠ j := by
      rw [e] at hs
      have := (List.pairwise_cons.mp hs).1 j (by simp)
      omega
    have z : ∀ k, k ≠ i → k ≠ j → m.getD k 0 = 0 := fun k a b => by
      have n := h.go.nn N k
      by_cases hk : 0 < m.getD k 0
      · have hkl : k < m.length := by
          by_cases c : k < m.length
          · exact c
          · rw [List.getD_eq_getElem?_getD, List.getElem?_eq_none (by omega)] at hk
            exact absurd hk (by decide)
        have := (mem_fil (ns := m) (k := k)).mpr ⟨hkl, hk⟩
        rw [e] at this
        simp [a, b] at this
      · omega
    refine ⟨i, j, rfl, mi.1, mj.1, hij, mi.2, mj.2, ?_, z⟩
    rw [← sum_two mi.1 mj.1 hij z]
    exact h.go.sum
theorem Wk.next {ns m : List Int} {g : Int} {T t i j : Nat} {ps : List (Nat × Nat)} (h : Wk ns g T t ps m) (g0 : 0 < g) (hS : ns.sum = g * 2 ^ T) (hi : i < m.length) (hj : j < m.length) (hij : i ≠ j) (pj : 0 < m.getD j 0) (hle : m.getD j 0 ≤ m.getD i 0)
    (hs : m.getD i 0 + m.getD j 0 = ns.sum) (hz : ∀ k, k ≠ i → k ≠ j → m.getD k 0 = 0) : t < T ∧ can m i j = true ∧ Wk ns g T (t + 1) (ps ++ [(i, j)]) (mv m i j) := by
  have hc : can m i j = true := can_iff.mpr ⟨pj, hle⟩
  have p2 : (0 : Int) < 2 ^ t := Int.pow_pos (by decide)
  have l1 : g * 2 ^ t ≤ m.getD j 0 := Int.le_of_dvd pj (h.dv j)
  have tT : t < T := by
    by_cases c : t < T
    · exact c
    · have e : t = T := Nat.le_antisymm h.tT (by omega)
      rw [← e] at hS
      omega
  have d1 : g * 2 ^ (t + 1) ∣ ns.sum := by
    rw [hS]
    exact pow_dvd_le tT g
  have d2 : g * 2 ^ (t + 1) ∣ 2 * m.getD j 0 := by
    obtain ⟨c, hc⟩ := h.dv j
    refine ⟨c, ?_⟩
    rw [hc, Int.pow_succ, Int.mul_left_comm 2, Int.mul_assoc g, Int.mul_assoc g, Int.mul_assoc]
  refine ⟨tT, hc, h.go.app (.one hi hj hij hc), by rw [List.length_append, h.len]; rfl, fun k => ?_, ?_, tT⟩
  · rw [getD_mv hi hj hij]
    by_cases a : k = j
    · rw [if_pos a]
      exact d2
    · rw [if_neg a]
      by_cases b : k = i
      · rw [if_pos b, show m.getD i 0 - m.getD j 0 = ns.sum - 2 * m.getD j 0 by omega]
        exact Int.dvd_sub d1 d2
      · rw [if_neg b, hz k b a]
        exact Int.dvd_zero _
  · refine Nat.le_trans ?_ (h.two)
    unfold fil
    rw [len_mv, ← List.countP_eq_length_filter, ← List.countP_eq_length_filter]
    refine List.countP_mono_left fun k _ hk => ?_
    have hk' := of_decide_eq_true hk
    rw [getD_mv hi hj hij] at hk'
    by_cases a : k = j
    · subst a
      exact decide_eq_true pj
    · rw [if_neg a] at hk'
      by_cases b : k = i
      · subst b
        exact decide_eq_true (by omega)
      · rw [if_neg b] at hk'
        exact decide_eq_true hk'
/-- one step further along a plan that can be made -/
theorem run_take {ns m a : List Int} {ps : List (Nat × Nat)} {i : Nat} (h : run ns ps = some m) (hi : i < ps.length) (ha : run ns (ps.take i) = some a) : can a ps[i].1 ps[i].2 = true ∧ run ns (ps.take (i + 1)) = some (mv a ps[i].1 ps[i].2) := by
  have e : ps = ps.take i ++ (ps[i] :: ps.drop (i + 1)) := by rw [← List.drop_eq_getElem_cons hi, List.take_append_drop]
  have h2 : run ns (ps.take i ++ (ps[i] :: ps.drop (i + 1))) = some m := by rw [← e]; exact h
  rw [run_app, ha] at h2
  have h3 : (if can a ps[i].1 ps[i].2 = true then run (mv a ps[i].1 ps[i].2) (ps.drop (i + 1)) else none) = some m := h2
  have hc : can a ps[i].1 ps[i].2 = true := by
    by_cases c : can a ps[i].1 ps[i].2 = true
    · exact c
    · rw [if_neg c] at h3
      cases h3
  refine ⟨hc, ?_⟩
  rw [List.take_add_one, List.getElem?_eq_getElem hi]
  show run ns (ps.take i ++ [ps[i]]) = _
  rw [run_app, ha]
  show (if can a ps[i].1 ps[i].2 = true then some (mv a ps[i].1 ps[i].2) else none) = _
  rw [if_pos hc]
theorem run_len : ∀ (ps : List (Nat × Nat)) (ns m : List Int), run ns ps = some m → m.length = ns.length
  | [], ns, m, e => by
    have e' : ns = m := Option.some.inj e
    rw [e']
  | p :: ps, ns, m, e => by
    have e' : (if can ns p.1 p.2 = true then run (mv ns p.1 p.2) ps else none) = some m := e
    split at e'
    · rw [run_len ps _ m e', len_mv]
    · cases e'
end Hd
set_option maxHeartbeats 4000000
/-! All pairs of places, in order; data that stands in the heap. -/
namespace Hd
open PySem PySem.Spec PyProof.Rows L2
def row (n i : Nat) : List (Nat × Nat) := ((List.range n).filter fun j => decide (j ≠ i)).map fun j => (i, j)
def rowTo (i j : Nat) : List (Nat × Nat) := ((List.range j).filter fun j => decide (j ≠ i)).map fun j => (i, j)
def prsTo (n i : Nat) : List (Nat × Nat) := (List.range i).flatMap (row n)
def prs (n : Nat) : List (Nat × Nat) := prsTo n n
theorem prsTo_succ (n i : Nat) : prsTo n (i + 1) = prsTo n i ++ row n i := by
  unfold prsTo
  rw [List.range_succ, List.flatMap_append]
  simp
theorem rowTo_succ (i j : Nat) : rowTo i (j + 1) = rowTo i j ++ (if j = i then [] else [(i, j)]) := by
  unfold rowTo
  rw [List.range_succ, List.filter_append, List.map_append]
  by_cases h : j = i
  · subst h
    simp
  · simp [h]
theorem prs_len {n : Nat} (h2 : n ≤ 6) : (prs n).length = n * (n - 1) := by
  have : n = 0 ∨ n = 1 ∨ n = 2 ∨ n = 3 ∨ n = 4 ∨ n = 5 ∨ n = 6 := by omega
  rcases this with e | e | e | e | e | e | e <;> subst e <;> decide
theorem prsTo_short {n : Nat} (h2 : n ≤ 6) : ∀ i, i ≤ n → (prsTo n i).length ≤ 36 := by
  have : n = 0 ∨ n = 1 ∨ n = 2 ∨ n = 3 ∨ n = 4 ∨ n = 5 ∨ n = 6 := by omega
  rcases this with e | e | e | e | e | e | e <;> subst e <;> decide
theorem prs_short {n : Nat} (h2 : n ≤ 6) : (prs n).length ≤ 36 := prsTo_short h2 n (Nat.le_refl n)
theorem mem_row {n i : Nat} {p : Nat × Nat} : p ∈ row n i ↔ p.1 = i ∧ p.2 < n ∧ p.2 ≠ i := by
  unfold row
  rw [List.mem_map]
  constructor
  · rintro ⟨j, hj, rfl⟩
    obtain ⟨h1, h2⟩ := List.mem_filter.mp hj
    exact ⟨rfl, List.mem_range.mp h1, by simpa using h2⟩
  · rintro ⟨rfl, h1, h2⟩
    exact ⟨p.2, List.mem_filter.mpr ⟨List.mem_range.mpr h1, by simpa using h2⟩, rfl⟩
theorem mem_prs {n : Nat} {p : Nat × Nat} : p ∈ prs n ↔ p.1 < n ∧ p.2 < n ∧ p.1 ≠ p.2 := by
  unfold prs prsTo
  rw [List.mem_flatMap]
  constructor
  · rintro ⟨i, hi, hp⟩
    obtain ⟨h1, h2, h3⟩ := mem_row.mp hp
    exact ⟨by rw [h1]; exact List.mem_range.mp hi, h2, by rw [h1]; exact fun z => h3 z.symm⟩
  · rintro ⟨h1, h2, h3⟩
    exact ⟨p.1, List.mem_range.mpr h1, mem_row.mpr ⟨rfl, h2, fun z => h3 z.symm⟩⟩
/-- the steps that can be made, in order -/
def due (ns : List Int) : List (Nat × Nat) := (prs ns.length).filter fun q => can ns q.1 q.2
theorem mem_due {ns : List Int} {p : Nat × Nat} : p ∈ due ns ↔ p.1 < ns.length ∧ p.2 < ns.length ∧ p.1 ≠ p.2 ∧ can ns p.1 p.2 = true := by
  unfold due
  rw [List.mem_filter, mem_prs]
  constructor
  · rintro ⟨⟨a, b, c⟩, d⟩
    exact ⟨a, b, c, d⟩
  · rintro ⟨a, b, c, d⟩
    exact ⟨⟨a, b, c⟩, d⟩
theorem filter_take {α : Type} {p : α → Bool} {l : List α} {i : Nat} {z : α} (h : l[i]? = some z) : (l.take (i + 1)).filter p = (l.take i).filter p ++ (if p z = true then [z] else []) := by
  rw [List.take_add_one, h, List.filter_append]
  congr 1
  simp only [Option.toList, List.filter_cons, List.filter_nil]
theorem map_take {α β : Type} {f : α → β} {l : List α} {i : Nat} {z : α} (h : l[i]? = some z) : (l.take (i + 1)).map f = (l.take i).map f ++ [f z] := by
  rw [List.take_add_one, h, List.map_append]
  rfl
/-! ### data -/
theorem shaped_mk {d : PyData} (h1 : d.canLay0 = true) (h2 : d.depth ≤ 64) : SeqAt.shaped d = true := by
  unfold SeqAt.shaped
  rw [h1, decide_eq_true h2]
  rfl
theorem lay_all {α : Type} (f : α → PyData) (h : ∀ x, (f x).canLay0 = true) : ∀ xs : List α, PyData.canLayAll0 (xs.map f) = true
  | [] => by simp [PyData.canLayAll0]
  | x :: xs => by simp [PyData.canLayAll0, h, lay_all f h xs]
theorem deep_all {α : Type} (f : α → PyData) (n : Nat) (h : ∀ x, (f x).depth ≤ n) : ∀ xs : List α, PyData.depthAll (xs.map f) ≤ n
  | [] => by simp [PyData.depthAll]
  | x :: xs => by
    have h1 := h x
    have h2 := deep_all f n h xs
    simp only [List.map_cons, PyData.depthAll]
    omega
theorem all_self {α : Type} (f : α → PyData) (h : ∀ x, PyData.eqv (f x) (f x) = true) : ∀ xs : List α, PyData.eqvAll (xs.map f) (xs.map f) = true
  | [] => by simp [PyData.eqvAll]
  | x :: xs => by
    simp only [List.map_cons, PyData.eqvAll, h, all_self f h xs, Bool.and_true]
theorem all_eqv {α : Type} (f : α → PyData) (e : α → α → Bool) (h : ∀ x y, PyData.eqv (f x) (f y) = e x y) (he : ∀ x y, e x y = true ↔ x = y) : ∀ xs ys : List α, PyData.eqvAll (xs.map f) (ys.map f) = true ↔ xs = ys
  | [], [] => by simp [PyData.eqvAll]
  | [], y :: ys => by simp [PyData.eqvAll]
  | x :: xs, [] => by simp [PyData.eqvAll]
  | x :: xs, y :: ys => by
    simp only [List.map_cons, PyData.eqvAll, h, Bool.and_eq_true, he, all_eqv f e h he xs ys, List.cons.injEq]
/-- a tuple of ints -/
def dI (ns : List Int) : PyData := .tuple (ns.map .int)
/-- a step -/
def dS (p : Nat × Nat) : PyData := .tuple [.int (p.1 : Int), .int (p.2 : Int)]
/-- a tuple of steps -/
def dP (ps : List (Nat × Nat)) : PyData := .tuple (ps.map dS)
theorem eqv_int (x y : Int) : PyData.eqv (.int x) (.int y) = (x == y) := by simp only [PyData.eqv]
theorem dI_eqv (xs ys : List Int) : PyData.eqv (dI xs) (dI ys) = decide (xs = ys) := by
  have h := all_eqv PyData.int (fun x y => x == y) eqv_int (fun x y => beq_iff_eq) xs ys
  unfold dI
  simp only [PyData.eqv]
  by_cases e : xs = ys
  · rw [h.mpr e, decide_eq_true e]
  · rw [decide_eq_false e]
    exact Bool.eq_false_iff.mpr fun z => e (h.mp z)
theorem dS_eqv (p q : Nat × Nat) : PyData.eqv (dS p) (dS q) = decide (p = q) := by
  obtain ⟨a, b⟩ := p
  obtain ⟨c, d⟩ := q
  have e : PyData.eqv (dS (a, b)) (dS (c, d)) = (decide (a = c) && decide (b = d)) := by
    simp only [dS, PyData.eqv, PyData.eqvAll]
    by_cases h1 : a = c <;> by_cases h2 : b = d <;> simp [h1, h2] <;> omega
  rw [e]
  by_cases h1 : a = c <;> by_cases h2 : b = d <;> simp [h1, h2]
theorem steps_eqv (xs ys : List (Nat × Nat)) : PyData.eqvAll (xs.map dS) (ys.map dS) = decide (xs = ys) := by
  have h := all_eqv dS (fun x y => decide (x = y)) dS_eqv (fun x y => by simp) xs ys
  by_cases e : xs = ys
  · rw [h.mpr e, decide_eq_true e]
  · rw [decide_eq_false e]
    exact Bool.eq_false_iff.mpr fun z => e (h.mp z)
theorem dP_eqv (xs ys : List (Nat × Nat)) : PyData.eqv (dP xs) (dP ys) = decide (xs = ys) := by
  unfold dP
  simp only [PyData.eqv]
  exact steps_eqv xs ys
theorem dI_lay (ns : List Int) : (dI ns).canLay0 = true := by
  have := lay_all PyData.int (fun x => by simp [PyData.canLay0]) ns
  simp [dI, PyData.canLay0, this]
theorem dI_deep (ns : List Int) : (dI ns).depth ≤ 1 := by
  have := deep_all PyData.int 0 (fun x => by simp [PyData.depth]) ns
  simp [dI, PyData.depth]
  omega
theorem dS_lay (p : Nat × Nat) : (dS p).canLay0 = true := by simp [dS, PyData.canLay0, PyData.canLayAll0]
theorem dS_deep (p : Nat × Nat) : (dS p).depth ≤ 1 := by simp [dS, PyData.depth, PyData.depthAll]
theorem dP_lay (ps : List (Nat × Nat)) : (dP ps).canLay0 = true := by
  have := lay_all dS dS_lay ps
  simp [dP, PyData.canLay0, this]
theorem dP_deep (ps : List (Nat × Nat)) : (dP ps).depth ≤ 2 := by
  have := deep_all dS 1 dS_deep ps
  simp [dP, PyData.depth]
  omega
theorem dI_ok (ns : List Int) : SeqAt.shaped (dI ns) = true := shaped_mk (dI_lay ns) (Nat.le_trans (dI_deep ns) (by decide))
theorem dS_ok (p : Nat × Nat) : SeqAt.shaped (dS p) = true := shaped_mk (dS_lay p) (Nat.le_trans (dS_deep p) (by decide))
theorem dP_ok (ps : List (Nat × Nat)) : SeqAt.shaped (dP ps) = true := shaped_mk (dP_lay ps) (Nat.le_trans (dP_deep ps) (by decide))
theorem dpall_ints {K : PySem.W.Frag} {H : Hp} : ∀ ns : List Int, DpAll K H (ns.map V.int) (ns.map PyData.int)
  | [] => .nil
  | n :: ns => .cons (.int n) (dpall_ints ns)
theorem dp_I {K : PySem.W.Frag} {H : Hp} {a : Addr} {ns : List Int} (h : SqT K H a (ns.map V.int)) : Dp K H (.ref a) (dI ns) := .tup h (dpall_ints ns)
theorem dp_S {K : PySem.W.Frag} {H : Hp} {a : Addr} {i j : Nat} (h : SqT K H a [.int (i : Int), .int (j : Int)]) : Dp K H (.ref a) (dS (i, j)) := .tup h (.cons (.int _) (.cons (.int _) .nil))
mutual
theorem dp_same {K : PySem.W.Frag} {H H' : Hp} (s : Same H H') : ∀ {v : V} {d : PyData}, Dp K H v d → Dp K H' v d
  | _, _, .non => .non
  | _, _, .bl b => .bl b
  | _, _, .int i => .int i
  | _, _, .str x => .str x
  | _, _, .lst h a => .lst (s.seq h) (dpall_same s a)
  | _, _, .tup h a => .tup (Same.tup s h) (dpall_same s a)
theorem dpall_same {K : PySem.W.Frag} {H H' : Hp} (s : Same H H') : ∀ {vs : List V} {ds : List PyData}, DpAll K H vs ds → DpAll K H' vs ds
  | _, _, .nil => .nil
  | _, _, .cons h t => .cons (dp_same s h) (dpall_same s t)
end
theorem dpall_get {K : PySem.W.Frag} {H : Hp} : ∀ {vs : List V} {ds : List PyData} {i : Nat} {v : V}, DpAll K H vs ds → vs[i]? = some v → ∃ d, ds[i]? = some d ∧ Dp K H v d
  | _, _, _, _, .nil, e => by simp at e
  | _, _, 0, _, .cons h t, e => by
    simp at e
    subst e
    exact ⟨_, rfl, h⟩
  | _, _, i + 1, _, .cons h t, e => by
    obtain ⟨d, e1, e2⟩ := dpall_get (i := i) t (by simpa using e)
    exact ⟨d, by simpa using e1, e2⟩
theorem dpall_len {K : PySem.W.Frag} {H : Hp} : ∀ {vs : List V} {ds : List PyData}, DpAll K H vs ds → vs.length = ds.length
  | _, _, .nil => rfl
  | _, _, .cons h t => by rw [List.length_cons, List.length_cons, dpall_len t]
end Hd
set_option maxHeartbeats 4000000
namespace Hd
open PySem PySem.Spec PyProof.Rows L2
def top (i : Nat) : Stmt := PySem.Challenge.pw_heapsdouble_k08_whole_texts_refused.main.body.getD i (.Pass ⟨0, 0, 0, 0⟩)
/-! ### the draws -/
structure Tx (K : PySem.W.Frag) (mg : Str → Option Value) : Prop where
  int : mg "int" = none
  list : mg "list" = none
  max : mg "max" = none
  len : mg "len" = none
  tuple : mg "tuple" = none
  range : mg "range" = none
/-- the source of draws at h: [state, cells, index], the cells at c -/
structure DrawAt (H : Hp) (h c : Addr) : Prop where
  ex : ∃ (st ix : Int) (cells : List Int), H h = some (.lst [.int st, .ref c, .int ix]) ∧ H c = some (.lst (cells.map V.int)) ∧ cells.length ≤ 63
  ne : h ≠ c
/-- all but the source stands as it stood -/
def Kept (h c : Addr) (H H' : Hp) : Prop := ∀ a o, H a = some o → a ≠ h → a ≠ c → H' a = some o
theorem Kept.refl {h c : Addr} {H : Hp} : Kept h c H H := fun _ _ e _ _ => e
theorem Kept.of {h c : Addr} {H H' : Hp} (e : Same H H') : Kept h c H H' := fun a o q _ _ => e a o q
theorem Kept.trans {h c : Addr} {H H1 H2 : Hp} (a : Kept h c H H1) (b : Kept h c H1 H2) : Kept h c H H2 := fun x o e n m => b x o (a x o e n m) n m
theorem Kept.new {h c : Addr} {H H1 : Hp} {p : Addr} {o : HO} (a : Kept h c H H1) (hp : H p = none) : Kept h c H (upd H1 p o) := fun x u e n m => by
  rw [upd_ne (ne_of_none e hp)]
  exact a x u e n m
theorem Kept.at_h {h c : Addr} {H H1 : Hp} {o : HO} (a : Kept h c H H1) : Kept h c H (upd H1 h o) := fun x u e n m => by
  rw [upd_ne n]
  exact a x u e n m
theorem Kept.at_c {h c : Addr} {H H1 : Hp} {o : HO} (a : Kept h c H H1) : Kept h c H (upd H1 c o) := fun x u e n m => by
  rw [upd_ne m]
  exact a x u e n m
theorem DrawAt.new {H : Hp} {h c p : Addr} {o : HO} (d : DrawAt H h c) (hp : H p = none) : DrawAt (upd H p o) h c := by
  obtain ⟨⟨st, ix, cells, h1, h2, h3⟩, ne⟩ := d
  exact ⟨⟨st, ix, cells, by rw [upd_ne (ne_of_none h1 hp)]; exact h1, by rw [upd_ne (ne_of_none h2 hp)]; exact h2, h3⟩, ne⟩
theorem DrawAt.upd {H : Hp} {h c p : Addr} {o : HO} (d : DrawAt H h c) (hh : p ≠ h) (hc : p ≠ c) : DrawAt (upd H p o) h c := by
  obtain ⟨⟨st, ix, cells, h1, h2, h3⟩, ne⟩ := d
  exact ⟨⟨st, ix, cells, by rw [upd_ne (Ne.symm hh)]; exact h1, by rw [upd_ne (Ne.symm hc)]; exact h2, h3⟩, ne⟩
theorem DrawAt.same {H H' : Hp} {h c : Addr} (d : DrawAt H h c) (e : Same H H') : DrawAt H' h c := by
  obtain ⟨⟨st, ix, cells, h1, h2, h3⟩, ne⟩ := d
  exact ⟨⟨st, ix, cells, e _ _ h1, e _ _ h2, h3⟩, ne⟩
theorem DrawAt.nots {H : Hp} {h c p : Addr} (d : DrawAt H h c) (hp : H p = none) : p ≠ h ∧ p ≠ c := by
  obtain ⟨⟨st, ix, cells, h1, h2, h3⟩, ne⟩ := d
  exact ⟨(ne_of_none h1 hp).symm, (ne_of_none h2 hp).symm⟩
theorem Kept.free {h c p : Addr} {H H' : Hp} (k : Kept h c H H') (d : DrawAt H' h c) (hp : H' p = none) : H p = none := by
  obtain ⟨n1, n2⟩ := d.nots hp
  cases e : H p with
  | none => rfl
  | some o =>
    rw [k p o e n1 n2] at hp
    cases hp
theorem Kept.tup {K : PySem.W.Frag} {h c a : Addr} {H H' : Hp} {xs : List V} (k : Kept h c H H') (d : DrawAt H h c) (q : SqT K H a xs) : SqT K H' a xs := by
  obtain ⟨⟨st, ix, cells, h1, h2, h3⟩, ne⟩ := d
  rcases q with (q | ⟨o, q⟩) | q
  · exact .inl (.inl (k _ _ q (ne_of q h1 (by intro z; cases z)) (ne_of q h2 (by intro z; cases z))))
  · exact .inl (.inr ⟨o, k _ _ q (ne_of q h1 (by intro z; cases z)) (ne_of q h2 (by intro z; cases z))⟩)
  · exact .inr q
def spMix (K : PySem.W.Frag) : Sp := fun vs H Q _ => ∃ (a : Addr) (ns : List Int) (seed : Int), vs = [.ref a, .int seed] ∧ SqL K H a (ns.map V.int) ∧ ns.length ≤ 63 ∧
  ∀ (h c : Addr) (H' : Hp), H h = none → H c = none → Same H H' → DrawAt H' h c → Q (.ref h) H'
def spNext : Sp := fun vs H Q _ => ∃ (h c : Addr) (b : Int), vs = [.ref h, .int b] ∧ DrawAt H h c ∧ 0 < b ∧ b < 2 ^ 200 ∧
  ∀ (n : Int) (H' : Hp), 0 ≤ n → n < b → DrawAt H' h c → Kept h c H H' → Q (.int n) H'
/-- the place of the drawn cell -/
theorem draw_ix (cells : List Int) (ix : Int) : ∃ (j : Nat) (z : Int), ix % (if (cells.length : Int) > 1 then (cells.length : Int) else 1) = (j : Int) ∧ (cells.map V.int ++ [V.int 0])[j]? = some (.int z) ∧ (cells = [] → z = 0) ∧ (cells ≠ [] → j < cells.length ∧ (if (cells.length : Int) > 1 then (cells.length : Int) else 1) = (cells.length : Int)) := by
  have hm : 0 < (if (cells.length : Int) > 1 then (cells.length : Int) else 1) := by split <;> omega
  have h0 := Int.emod_nonneg ix (Int.ne_of_gt hm)
  have h1 := Int.emod_lt_of_pos ix hm
  obtain ⟨j, hj⟩ := Int.eq_ofNat_of_zero_le h0
  rw [hj] at h1
  cases cells with
  | nil =>
    refine ⟨j, 0, hj, ?_, fun _ => rfl, fun h => absurd rfl h⟩
    simp at h1
    have : j = 0 := by omega
    subst this
    rfl
  | cons x r =>
    have hm2 : (if (((x :: r).length : Nat) : Int) > 1 then (((x :: r).length : Nat) : Int) else 1) = (((x :: r).length : Nat) : Int) := by
      split
      · rfl
      · have : (((x :: r).length : Nat) : Int) ≥ 1 := by rw [List.length_cons]; omega
        omega
    rw [hm2] at h1
    have hlt : j < (x :: r).length := by omega
    refine ⟨j, (x :: r)[j], hj, ?_, fun h => (nomatch h), fun _ => ⟨hlt, hm2⟩⟩
    rw [List.getElem?_append_left (by rw [List.length_map]; exact hlt), List.getElem?_map, List.getElem?_eq_getElem hlt]
    rfl
theorem int_at {ns : List Int} {i : Nat} {y : V} (hi : (ns.map V.int)[i]? = some y) : ∃ z, ns[i]? = some z ∧ y = V.int z := by
  rw [List.getElem?_map] at hi
  cases e : ns[i]? with
  | none =>
    rw [e] at hi
    cases hi
  | some z =>
    rw [e] at hi
    exact ⟨z, rfl, (Option.some.inj hi).symm⟩
section
variable {P : Program} {w : World} {K : PySem.W.Frag} {mg : Str → Option Value} {base : Heap}
abbrev s_l_mix : Stmt := top 28
theorem sc_l_mix : FnScope ["_law_script", "_law_seed", "_law_state", "_law_cell"] ["_law_script", "_law_seed"] (defScope s_l_mix) := ⟨rfl, rfl, rfl, by decide +kernel, rfl, by decide +kernel, by decide +kernel⟩
theorem ok_mix {f : Addr} {fd : FuncData} (F : Fun K "_law_mix" "_law_mix" s_l_mix f fd) (T : Tx K mg) : FnOk P w K mg base CX0 1 f fd ["_law_script", "_law_seed"] (spMix K) := by
  refine F.ok sc_l_mix (fun vs H Q E h => ?_) (fun cdv A outer s H vs Q E hr h => ?_)
  · obtain ⟨a, ns, seed, rfl, _⟩ := h
    rfl
  · obtain ⟨a, ns, seed, rfl, hS, hlen, k⟩ := h
    refine ⟨_, (pss_cons (ps_set (i := 2) sc_l_mix.nd rfl (Or.inl rfl) (pv 1))
      (pss_cons (ps_for PassesOwn.never rfl (pi_list (pv 0)) (pg_name (i := 3) sc_l_mix.nd rfl (Or.inl rfl))
      (pss_one (ps_set (i := 2) sc_l_mix.nd rfl (Or.inl rfl) (pe_op op_mod (pe_callTy call_int1 (by rfl) T.int (by decide +kernel) (pa_cons (pe_op op_add (pe_op op_add (pe_op op_mul (pv 2) pe_int) (pe_op op_mod (pe_callTy call_int1 (by rfl) T.int (by decide +kernel) (pa_cons (pv 3) pa_nil)) pe_int)) pe_int) pa_nil)) pe_int))))
      (pss_one (ps_ret (pe_lst (pa_cons (pv 2) (pa_cons (pe_callTy call_list_of (by rfl) T.list (by decide +kernel) (pa_cons (pv 0) pa_nil)) (pa_cons pe_int pa_nil)))))))), ?_⟩
    refine ⟨_, rfl, _, rfl, a, rfl, ⟨_, hS⟩, for_list (K := K) (a := a) (xs := ns.map V.int) (fun i σ H2 => ∃ (st : Int) (v : Option V), σ = [some (.ref a), some (.int seed), some (.int st), v] ∧ H2 = H)
      ⟨seed, none, rfl, rfl⟩ (fun i σ H2 _ ⟨_, _, _, e⟩ => by rw [e]; exact hS) ?_ ?_⟩
    · rintro i y σ H2 hi ⟨st, v, rfl, rfl⟩
      obtain ⟨z, _, rfl⟩ := int_at hi
      refine ⟨_, rfl, _, _, rfl, rfl, .inr ⟨by decide, by decide⟩, _, rfl, .inl ⟨_, rfl, _, _, rfl, rfl, (by show (0 : Int) < 2147483629; decide), _, _, rfl, rfl, _, _, rfl, rfl, .inl ⟨_, rfl, _, _, rfl, rfl, (by show (0 : Int) < 2147483647; decide), ?_⟩⟩⟩
      exact ⟨_, _, rfl, rfl⟩
    · rintro σ H2 ⟨st, v, rfl, rfl⟩
      refine ⟨_, rfl, _, rfl, a, _, rfl, .inl hS, fun c hc => ⟨by show 3 ≤ sizeLine; decide, fun h hh => ?_⟩⟩
      have hch : h ≠ c := fun e => by
        rw [e, upd_same] at hh
        cases hh
      have hh0 : H2 h = none := by
        rw [upd_ne hch] at hh
        exact hh
      refine k h c _ hh0 hc (same_upd (same_upd (Same.refl _) hc) hh0) ⟨⟨st, 0, ns, upd_same, by rw [upd_ne hch.symm, upd_same], hlen⟩, hch⟩
abbrev s_l_next : Stmt := top 29
theorem sc_l_next : FnScope ["_law_h", "_law_bound", "_law_cell", "_law_cells"] ["_law_h", "_law_bound"] (defScope s_l_next) := ⟨rfl, rfl, rfl, by decide +kernel, rfl, by decide +kernel, by decide +kernel⟩
theorem ok_next {f : Addr} {fd : FuncData} (F : Fun K "_law_next" "_law_next" s_l_next f fd) (T : Tx K mg) : FnOk P w K mg base CX0 1 f fd ["_law_h", "_law_bound"] spNext := by
  refine F.ok sc_l_next (fun vs H Q E h => ?_) (fun cdv A outer s H vs Q E hr h => ?_)
  · obtain ⟨a, c, b, rfl, _⟩ := h
    rfl
  · obtain ⟨h, c, b, rfl, D, hb, hb2, k⟩ := h
    obtain ⟨⟨st, ix, cells, hh, hc, hl⟩, hne0⟩ := id D
    refine ⟨_, (pss_cons (ps_set (i := 2) sc_l_next.nd rfl (Or.inl rfl) (pe_ix ix_list (pe_op op_cat (pe_ix ix_list (pv 0) pe_int (fun _ _ => rfl)) (pe_lst (pa_cons pe_int pa_nil))) (pe_op op_mod (pe_callTy call_int1 (by rfl) T.int (by decide +kernel) (pa_cons (pe_ix ix_list (pv 0) pe_int (fun _ _ => rfl)) pa_nil)) (pe_callB (call_max2 rfl) (by rfl) T.max (by decide +kernel) (pa_cons pe_int (pa_cons (pe_callB call_len_seq (by rfl) T.len PySem.boot_len (pa_cons (pe_ix ix_list (pv 0) pe_int (fun _ _ => rfl)) pa_nil)) pa_nil)))) (fun _ _ => rfl)))
      (pss_cons (ps_if (pt_cmpR op_ge (pv 2) (pe_op op_pow pe_int pe_int) (nomark _)) (pss_cons (ps_set (i := 3) sc_l_next.nd rfl (Or.inl rfl) (pe_ix ix_list (pv 0) pe_int (fun _ _ => rfl)))
      (pss_cons (ps_asg (pe_op op_fdivW (pv 2) (pv 1)) (pg_sub (pv 3) (pe_op op_mod (pe_callTy call_int1 (by rfl) T.int (by decide +kernel) (pa_cons (pe_ix ix_list (pv 0) pe_int (fun _ _ => rfl)) pa_nil)) (pe_callB call_len_seq (by rfl) T.len PySem.boot_len (pa_cons (pv 3) pa_nil))) set_list))
      (pss_one (ps_ret (pe_op op_mod (pe_callTy call_int1 (by rfl) T.int (by decide +kernel) (pa_cons (pv 2) pa_nil)) (pv 1)))))) pss_nil)
      (pss_cons (ps_asg (pe_op op_mod (pe_callTy call_int1 (by rfl) T.int (by decide +kernel) (pa_cons (pe_op op_add (pe_op op_add (pe_op op_mul (pe_ix ix_list (pv 0) pe_int (fun _ _ => rfl)) pe_int) (pe_op op_mul (pv 2) pe_int)) pe_int) pa_nil)) pe_int) (pg_sub (pv 0) pe_int set_list))
      (pss_cons (ps_asg (pe_op op_add (pe_ix ix_list (pv 0) pe_int (fun _ _ => rfl)) pe_int) (pg_sub (pv 0) pe_int set_list))
      (pss_one (ps_ret (pe_op op_mod (pe_callTy call_int1 (by rfl) T.int (by decide +kernel) (pa_cons (pe_op op_fdiv (pe_ix ix_list (pv 0) pe_int (fun _ _ => rfl)) pe_int) pa_nil)) (pv 1)))))))), ?_⟩
    obtain ⟨j, z, ej, ez, e0, e1⟩ := draw_ix cells ix
    -- _law_cell
    refine ⟨_, rfl, h, _, _, _, rfl, rfl, SqL.of hh, rfl, by show 1 ≤ sizeLine; decide, fun p hp => ?_⟩
    have nph : h ≠ p := ne_of_none hh hp
    have npc : c ≠ p := ne_of_none hc hp
    refine ⟨c, p, _, _, rfl, rfl, by rw [upd_ne npc]; exact hc, upd_same, ?_, fun q hq => ?_⟩
    · rw [List.length_map, sizeLine_eq]
      show cells.length + 1 ≤ _
      omega
    have nqp : p ≠ q := ne_of_none upd_same hq
    have hq' : H q = none := by
      rw [upd_ne nqp.symm] at hq
      exact hq
    have nqh : h ≠ q := ne_of_none hh hq'
    have nqc : c ≠ q := ne_of_none hc hq'
    have hh2 : (upd (upd H p (.lst [.int 0])) q (.lst (cells.map V.int ++ [.int 0]))) h = some (.lst [.int st, .ref c, .int ix]) := by rw [upd_ne nqh, upd_ne nph]; exact hh
    have hc2 : (upd (upd H p (.lst [.int 0])) q (.lst (cells.map V.int ++ [.int 0]))) c = some (.lst (cells.map V.int)) := by rw [upd_ne nqc, upd_ne npc]; exact hc
    have hq2 : (upd (upd H p (.lst [.int 0])) q (.lst (cells.map V.int ++ [.int 0]))) q = some (.lst (cells.map V.int ++ [.int 0])) := upd_same
    have kk : Kept h c H (upd (upd H p (.lst [.int 0])) q (.lst (cells.map V.int ++ [.int 0]))) := (Kept.refl.new hp).new hq'
    generalize upd (upd H p (.lst [.int 0])) q (.lst (cells.map V.int ++ [.int 0])) = H2 at hh2 hc2 hq2 kk ⊢
    refine ⟨_, rfl, h, _, _, _, rfl, rfl, SqL.of hh2, rfl, .inl ⟨_, rfl, _, rfl, h, _, _, _, rfl, rfl, SqL.of hh2, rfl, c, _, rfl, .inl (SqL.of hc2), _, _, rfl, ?_⟩⟩
    rw [List.length_map]
    refine ⟨_, _, rfl, rfl, (by split <;> omega), q, _, _, _, rfl, rfl, SqL.of hq2, at_of ej ez, ?_⟩
    -- if _law_cell >= 10 ** 18
    refine ⟨_, rfl, _, _, rfl, rfl, ⟨by decide, by decide, by decide⟩, _, _, rfl, rfl, _, rfl, ?_⟩
    refine ite2 (fun hge => ?_) (fun _ => ?_)
    · have hz : (10 : Int) ^ 18 ≤ z := of_decide_eq_true hge
      have hz0 : z ≠ 0 := by omega
      have hne : cells ≠ [] := fun e => hz0 (e0 e)
      obtain ⟨hj, em⟩ := e1 hne
      rw [em] at ej
      refine ⟨_, rfl, h, _, _, _, rfl, rfl, SqL.of hh2, rfl, _, rfl, _, rfl, _, _, rfl, rfl, wide_div hb (b := 200) ?_ (by decide) (by decide), ?_⟩
      · omega
      refine ⟨_, rfl, _, rfl, h, _, _, _, rfl, rfl, SqL.of hh2, rfl, .inl ⟨_, rfl, _, rfl, c, _, rfl, .inl (SqL.of hc2), _, _, rfl, rfl, ?_, ?_⟩⟩
      · rw [List.length_map]
        omega
      refine ⟨c, _, _, j, rfl, rfl, hc2, ?_, ?_⟩
      · rw [List.length_map, ej]
        unfold ixN
        rw [if_pos (by omega), if_pos (by omega)]
        simp
      refine ⟨_, rfl, .inl ⟨_, rfl, _, rfl, _, _, rfl, rfl, hb, ?_⟩⟩
      refine k _ _ (Int.emod_nonneg _ (by omega)) (Int.emod_lt_of_pos _ hb) ⟨⟨st, ix, cells.set j (z / b), ?_, ?_, by rw [List.length_set]; exact hl⟩, hne0⟩ kk.at_c
      · rw [upd_ne hne0]
        exact hh2
      · rw [upd_same, List.map_set]
    · -- _law_h[0] = ..
      refine ⟨_, rfl, h, _, _, _, rfl, rfl, SqL.of hh2, rfl, _, _, rfl, rfl, .inr ⟨by decide, by decide⟩, _, rfl, _, _, rfl, rfl, .inr ⟨by decide, by decide⟩, _, _, rfl, rfl, _, _, rfl, rfl, .inl ⟨_, rfl, _, _, rfl, rfl, (by show (0 : Int) < 2147483647; decide), ?_⟩⟩
      refine ⟨_, rfl, h, _, _, 0, rfl, rfl, hh2, rfl, ?_⟩
      -- _law_h[2] = _law_h[2] + 1
      refine ⟨_, rfl, h, _, _, _, rfl, rfl, SqL.of upd_same, rfl, _, _, rfl, rfl, _, rfl, h, _, _, 2, rfl, rfl, upd_same, rfl, ?_⟩
      refine ⟨_, rfl, h, _, _, _, rfl, rfl, SqL.of upd_same, rfl, _, _, rfl, rfl, ⟨by decide, by decide⟩, .inl ⟨_, rfl, _, rfl, _, _, rfl, rfl, hb, ?_⟩⟩
      refine k _ _ (Int.emod_nonneg _ (by omega)) (Int.emod_lt_of_pos _ hb) ⟨⟨_, _, cells, upd_same, ?_, hl⟩, hne0⟩ kk.at_h.at_h
      rw [upd_ne hne0.symm, upd_ne hne0.symm]
      exact hc2
/-- heaps are drawn: so many, none below 0, not all empty -/
structure HeapsOk (least most : Nat) (ns : List Int) : Prop where
  lo : least ≤ ns.length
  hi : ns.length ≤ most
  ge : ∀ n ∈ ns, 0 ≤ n
  le : ∀ n ∈ ns, n ≤ 10 ^ 30
  pos : ∃ n ∈ ns, 0 < n
def spHeaps : Sp := fun vs H Q _ => ∃ (h c : Addr) (least most : Nat), vs = [.ref h, .int (least : Int), .int (most : Int)] ∧ DrawAt H h c ∧ 1 ≤ least ∧ least ≤ most ∧ most ≤ 6 ∧
  ∀ (t : Addr) (ns : List Int) (H' : Hp), HeapsOk least most ns → H t = none → TupZ H' t (ns.map V.int) → DrawAt H' h c → Kept h c H H' → Q (.ref t) H'
theorem pick5 {x0 x1 x2 x3 x4 : Int} {n : Int} (h0 : 0 ≤ n) (h5 : n < 5) : ∃ z, atI [V.int x0, V.int x1, V.int x2, V.int x3, V.int x4] n = some (V.int z) ∧ z ∈ [x0, x1, x2, x3, x4] := by
  have : n = 0 ∨ n = 1 ∨ n = 2 ∨ n = 3 ∨ n = 4 := by omega
  rcases this with e | e | e | e | e <;> subst e <;> exact ⟨_, rfl, by simp⟩
abbrev s_l_heaps : Stmt := top 30
theorem sc_l_heaps : FnScope ["_law_h", "_law_least", "_law_most", "_law_size", "_law_far", "_law_part", "_law_found", "_law_k"] ["_law_h", "_law_least", "_law_most"] (defScope s_l_heaps) := ⟨rfl, rfl, rfl, by decide +kernel, rfl, by decide +kernel, by decide +kernel⟩
theorem ok_heaps {f : Addr} {fd : FuncData} (F : Fun K "_law_heaps" "_law_heaps" s_l_heaps f fd) (T : Tx K mg) (C_l_next : Cal P w K mg base CX0 1 "_law_next" ["_law_h", "_law_bound"] spNext) : FnOk P w K mg base CX0 2 f fd ["_law_h", "_law_least", "_law_most"] spHeaps := by
  refine F.ok sc_l_heaps (fun vs H Q E h => ?_) (fun cdv A outer s H vs Q E hr h => ?_)
  · obtain ⟨a, c, l, m, rfl, _⟩ := h
    rfl
  · obtain ⟨h, c, least, most, rfl, D, h1, h2, h3, k⟩ := h
    refine ⟨_, (pss_cons (ps_set (i := 3) sc_l_heaps.nd rfl (Or.inl rfl) (pe_op op_add (pv 1) (pe_cal C_l_next hr rfl pass0 (pa_cons (pv 0) (pa_cons (pe_op op_add (pe_op op_sub (pv 2) (pv 1)) pe_int) pa_nil)))))
      (pss_cons (ps_set (i := 4) sc_l_heaps.nd rfl (Or.inr rfl) (pe_ix ix_list (pe_lst (pa_cons pe_int (pa_cons pe_int (pa_cons pe_int (pa_cons (pe_op op_pow pe_int pe_int) (pa_cons (pe_op op_pow pe_int pe_int) pa_nil)))))) (pe_cal C_l_next hr rfl pass0 (pa_cons (pv 0) (pa_cons pe_int pa_nil))) (fun _ _ => rfl)))
      (pss_cons (ps_set (i := 5) sc_l_heaps.nd rfl (Or.inr rfl) (pe_ix ix_list (pe_lst (pa_cons pe_int (pa_cons pe_int (pa_cons pe_int (pa_cons pe_int (pa_cons pe_int pa_nil)))))) (pe_cal C_l_next hr rfl pass0 (pa_cons (pv 0) (pa_cons pe_int pa_nil))) (fun _ _ => rfl)))
      (pss_cons (ps_setLc (i := 6) (own := [("_law_k", 7)]) (g := gName 7) (by rfl) sc_l_heaps.nd rfl rfl (sw_true rfl rfl rfl (by decide +kernel)) (pi_range1 rfl T.range (pa_cons (pv 3) pa_nil)) (blkOk_by (own := [("_law_k", 7)]) (N := ["_law_h", "_law_least", "_law_most", "_law_size", "_law_far", "_law_part", "_law_found", "_law_k"]) (sc := defScope s_l_heaps) (by decide +kernel)) (fun _ _ _ _ _ => pg_name (i := 7) sc_l_heaps.nd rfl (Or.inl rfl)) (fun _ _ _ _ _ => pts_nil) (fun _ _ _ _ _ => (pe_op op_mul (pv 5) (pe_cal C_l_next hr rfl pass0 (pa_cons (pv 0) (pa_cons (pv 4) pa_nil))))))
      (pss_cons (ps_if (pt_cmpR op_eq (pe_callB (cr_max rfl) (by rfl) T.max (by decide +kernel) (pa_cons (pv 6) pa_nil)) pe_int (nomark _)) (pss_one (ps_asg (pv 5) (pg_sub (pv 6) (pe_cal C_l_next hr rfl pass0 (pa_cons (pv 0) (pa_cons (pv 3) pa_nil))) set_list))) pss_nil)
      (pss_one (ps_ret (pe_callTy call_tupleZ (by rfl) T.tuple (by decide +kernel) (pa_cons (pv 6) pa_nil))))))))), ?_⟩
    -- _law_size
    refine ⟨_, rfl, _, rfl, _, rfl, _, rfl, _, _, rfl, rfl, _, _, rfl, rfl, h, c, _, rfl, D, by omega, by omega, fun n1 H1 l1 u1 D1 k1 => ⟨_, _, rfl, rfl, ?_⟩⟩
    obtain ⟨n1, rfl⟩ := Int.eq_ofNat_of_zero_le l1
    -- _law_far
    refine ⟨_, _, rfl, rfl, ⟨by decide, by decide, by decide⟩, _, _, rfl, rfl, ⟨by decide, by decide, by decide⟩, by show 5 ≤ sizeLine; decide, fun p hp => ?_⟩
    refine ⟨_, rfl, h, c, _, rfl, D1.new hp, by omega, by omega, fun n2 H2 l2 u2 D2 k2 => ?_⟩
    obtain ⟨np1, np2⟩ := D1.nots hp
    obtain ⟨far, e2, far_in⟩ := pick5 (x0 := 4) (x1 := 9) (x2 := 60) (x3 := 10 ^ (15 : Int).toNat) (x4 := 10 ^ (29 : Int).toNat) l2 u2
    refine ⟨p, _, _, _, rfl, rfl, SqL.of (k2 p _ upd_same np1 np2), e2, ?_⟩
    have hfar : 0 < far ∧ far ≤ 10 ^ 29 := by
      simp only [List.mem_cons, List.mem_nil_iff, or_false] at far_in
      rcases far_in with e | e | e | e | e <;> subst e <;> decide
    have k2' : Kept h c H H2 := (k1.new (k1.free D1 hp)).trans k2
    -- _law_part
    refine ⟨by show 5 ≤ sizeLine; decide, fun p3 hp3 => ?_⟩
    refine ⟨_, rfl, h, c, _, rfl, D2.new hp3, by omega, by omega, fun n3 H3 l3 u3 D3 k3 => ?_⟩
    obtain ⟨mp1, mp2⟩ := D2.nots hp3
    obtain ⟨part, e3, part_in⟩ := pick5 (x0 := 1) (x1 := 1) (x2 := 2) (x3 := 3) (x4 := 8) l3 u3
    refine ⟨p3, _, _, _, rfl, rfl, SqL.of (k3 p3 _ upd_same mp1 mp2), e3, ?_⟩
    have hpart : 1 ≤ part ∧ part ≤ 8 := by
      simp only [List.mem_cons, List.mem_nil_iff, or_false] at part_in
      rcases part_in with e | e | e | e | e <;> subst e <;> decide
    have k3' : Kept h c H H3 := (k2'.new (k2'.free D2 hp3)).trans k3
    -- _law_found
    refine ⟨_, rfl, _, rfl, by omega, by omega, ?_⟩
    have esz : ((least : Int) + (n1 : Int)).toNat = least + n1 := by omega
    rw [esz]
    intro DD hDD
    obtain ⟨dd1, dd2⟩ := D3.nots hDD
    refine lc_range (lo := 0) (n := least + n1) (fun i H4 => ∃ ms : List Int, H4 DD = some (.lst (ms.map V.int)) ∧ ms.length = i ∧ (∀ m ∈ ms, 0 ≤ m ∧ m ≤ 8 * 10 ^ 29) ∧ DrawAt H4 h c ∧ Kept h c H H4) ?_ ?_ ?_
    · exact ⟨[], upd_same, rfl, fun m hm => (nomatch hm), D3.new hDD, k3'.new (k3'.free D3 hDD)⟩
    · rintro i H4 hi ⟨ms, hms, hlen, hb, D4, k4⟩
      refine ⟨rfl, _, rfl, _, rfl, _, rfl, h, c, far, rfl, D4, hfar.1, by omega, fun n H5 l5 u5 D5 k5 => ⟨_, _, rfl, rfl, .inl ⟨by omega, by omega⟩, ms.map V.int, k5 DD _ hms dd1 dd2, ?_, ?_⟩⟩
      · rw [List.length_map, sizeLine_eq]
        omega
      refine ⟨ms ++ [part * n], by rw [upd_same, List.map_append]; rfl, by rw [List.length_append, hlen]; rfl, fun m hm => ?_, D5.upd dd1 dd2, (k4.trans k5).new (k3'.free D3 hDD)⟩
      rcases List.mem_append.mp hm with hm | hm
      · exact hb m hm
      · have em : m = part * n := by simpa using hm
        subst em
        refine ⟨Int.mul_nonneg (by omega) l5, ?_⟩
        have q := Int.mul_le_mul (a := part) (b := n) (c := 8) (d := 10 ^ 29) hpart.2 (by omega) l5 (by omega)
        exact q
    · rintro H4 ⟨ms, hms, hlen, hb, D4, k4⟩
      have hlen' : ms.length ≤ most := by omega
      have hpos : 0 < ms.length := by omega
      refine ⟨_, rfl, DD, ms, rfl, SqL.of hms, hpos, fun m hm hle => ⟨rfl, _, rfl, ?_⟩⟩
      refine ite2 (fun hz => ?_) (fun hz => ?_)
      · refine ⟨_, rfl, _, rfl, _, rfl, _, rfl, h, c, _, rfl, D4, by omega, by omega, fun n H5 l5 u5 D5 k5 => ?_⟩
        obtain ⟨n, rfl⟩ := Int.eq_ofNat_of_zero_le l5
        have hn : n < ms.length := by omega
        refine ⟨DD, _, _, n, rfl, rfl, k5 DD _ hms dd1 dd2, ?_, ?_⟩
        · rw [List.length_map]
          unfold ixN
          rw [if_pos (by omega), if_pos (by omega)]
          simp
        refine ⟨_, rfl, DD, _, rfl, SqL.of upd_same, fun t o ht ho => ?_⟩
        have htD : t ≠ DD := fun e => by
          rw [e, upd_same] at ht
          cases ht
        have D6 := D5.upd (o := .lst ((ms.map V.int).set n (.int part))) dd1 dd2
        have k6 : Kept h c H (upd H5 DD (.lst ((ms.map V.int).set n (.int part)))) := (k4.trans k5).new (k3'.free D3 hDD)
        refine k t (ms.set n part) _ ⟨by rw [List.length_set]; omega, by rw [List.length_set]; omega, fun y hy => ?_, fun y hy => ?_, ⟨part, ?_, by omega⟩⟩ (k6.free D6 ht) ⟨o, ho, by rw [upd_same, List.map_set]⟩ (D6.new ht) (k6.new (k6.free D6 ht))
        · rcases List.mem_or_eq_of_mem_set hy with hy | hy
          · exact (hb y hy).1
          · omega
        · rcases List.mem_or_eq_of_mem_set hy with hy | hy
          · have := (hb y hy).2
            omega
          · omega
        · exact List.mem_iff_getElem?.mpr ⟨n, by rw [List.getElem?_set_self hn]⟩
      · refine ⟨_, rfl, DD, _, rfl, SqL.of hms, fun t o ht ho => ?_⟩
        have hm0 : m ≠ 0 := fun e => hz (decide_eq_true (by rw [e]))
        have := (hb m hm).1
        refine k t ms _ ⟨by omega, hlen', fun y hy => (hb y hy).1, fun y hy => ?_, ⟨m, hm, by omega⟩⟩ (k4.free D4 ht) ⟨o, ho, upd_same⟩ (D4.new ht) (k4.new (k4.free D4 ht))
        have := (hb y hy).2
        omega
end
end Hd
set_option maxHeartbeats 4000000
/-! Looks at values of any kind. -/
namespace Hd
open PySem PySem.Spec PyProof.Rows L2
theorem pe_gint {X : Cx} {x : Str} {v : Int} {pos : Pos} (hg : Gl X x) (hm : ∃ t, X.mg x = some (.int v t)) (hd : (x == ("__debug__" : Str)) = false := by decide) : PE X (.Name x pos) (tC (.int v)) := by
  obtain ⟨t, hm⟩ := hm
  exact pe_glob hg hm ⟨t, rfl⟩ hd
theorem tyx_tup {K : PySem.W.Frag} {H : Hp} {a : Addr} {xs : List V} (h : SqT K H a xs) : TyX K H (.ref a) (.type "tuple") := by
  rcases h with (h | ⟨o, h⟩) | ⟨o, its, n, hk, hc, _⟩
  · exact .base (.tup h)
  · exact .fTuple h
  · exact .kTuple hk hc
theorem tyx_lst {K : PySem.W.Frag} {H : Hp} {a : Addr} {xs : List V} (h : SqL K H a xs) : TyX K H (.ref a) (.type "list") := by
  rcases h with (h | ⟨o, h⟩) | ⟨o, its, n, hk, hc, _⟩
  · exact .base (.lst h)
  · exact .base (.frz h)
  · exact .kList hk hc
/-- the built-in names, none of them stored by the program -/
structure Tz (mg : Str → Option Value) : Prop where
  int : mg "int" = none
  bool : mg "bool" = none
  list : mg "list" = none
  len : mg "len" = none
  tuple : mg "tuple" = none
  isinstance : mg "isinstance" = none
  all : mg "all" = none
  any : mg "any" = none
  sum : mg "sum" = none
  enumerate : mg "enumerate" = none
  range : mg "range" = none
  sorted : mg "sorted" = none
  set : mg "set" = none
  max : mg "max" = none
  min : mg "min" = none
  str : mg "str" = none
structure Tp (mg : Str → Option Value) : Prop extends Tz mg where
  c_FEWEST_HEAPS : ∃ t, mg "FEWEST_HEAPS" = some (.int 2 t)
  c_MOST_HEAPS : ∃ t, mg "MOST_HEAPS" = some (.int 6 t)
  c_GREATEST : ∃ t, mg "GREATEST" = some (.int (10 ^ 30) t)
/-! ### the mirror -/
def inR (l g v : Int) : Bool := decide (l ≤ v) && decide (v ≤ g)
def isIntD (l g : Int) : PyData → Bool
  | .int i => inR l g i
  | _ => false
def intD : PyData → Int
  | .int i => i
  | _ => 0
def hpsB (ns : List Int) : Bool := (decide (2 ≤ ns.length) && decide (ns.length ≤ 6)) && ((ns.map (inR 0 (10 ^ 30))).all id && decide (0 < ns.sum))
/-- a value that is heaps -/
def hpsD : PyData → Bool
  | .tuple ds => (decide (2 ≤ ds.length) && decide (ds.length ≤ 6)) && ((ds.map (isIntD 0 (10 ^ 30))).all id && decide (0 < (ds.map intD).sum))
  | _ => false
theorem hpsD_dI (ns : List Int) : hpsD (dI ns) = hpsB ns := by
  show ((decide (2 ≤ (ns.map PyData.int).length) && decide ((ns.map PyData.int).length ≤ 6)) && (((ns.map PyData.int).map (isIntD 0 (10 ^ 30))).all id && decide (0 < ((ns.map PyData.int).map intD).sum))) = _
  unfold hpsB
  rw [List.length_map, List.map_map, List.map_map]
  congr 2
  have : (intD ∘ PyData.int) = id := by
    funext x
    rfl
  rw [this, List.map_id]
/-- a value that is a pair of two different places below n -/
def prD (n : Int) : PyData → Bool
  | .tuple [a, b] => isIntD 0 (n - 1) a && (isIntD 0 (n - 1) b && !decide (intD a = intD b))
  | _ => false
/-- a value that is a step that can be made -/
def stD (ns : List Int) : PyData → Bool
  | .tuple [a, b] => prD ns.length (.tuple [a, b]) && can ns (intD a).toNat (intD b).toNat
  | _ => false
theorem isInt_eq {l g : Int} {d : PyData} (h : isIntD l g d = true) : ∃ i, d = .int i ∧ l ≤ i ∧ i ≤ g := by
  cases d <;> first | cases h | skip
  rename_i i
  unfold isIntD inR at h
  simp only [Bool.and_eq_true, decide_eq_true_eq] at h
  exact ⟨i, rfl, h.1, h.2⟩
theorem prD_eq {n : Nat} {d : PyData} (h : prD n d = true) : ∃ i j : Nat, d = dS (i, j) ∧ i < n ∧ j < n ∧ i ≠ j := by
  unfold prD at h
  split at h
  · simp only [Bool.and_eq_true, Bool.not_eq_true', decide_eq_false_iff_not] at h
    obtain ⟨h1, h2, h3⟩ := h
    obtain ⟨a, rfl, a1, a2⟩ := isInt_eq h1
    obtain ⟨b, rfl, b1, b2⟩ := isInt_eq h2
    have z : ¬ a = b := h3
    refine ⟨a.toNat, b.toNat, ?_, by omega, by omega, by omega⟩
    unfold dS
    simp only
    rw [Int.toNat_of_nonneg a1, Int.toNat_of_nonneg b1]
  · cases h
theorem prD_dS {n i j : Nat} : prD n (dS (i, j)) = (decide (i < n) && (decide (j < n) && decide (i ≠ j))) := by
  unfold dS prD isIntD inR intD
  simp only
  by_cases h1 : i < n <;> by_cases h2 : j < n <;> by_cases h3 : i = j <;> simp [h1, h2, h3] <;> omega
theorem stD_dS {ns : List Int} {i j : Nat} : stD ns (dS (i, j)) = ((decide (i < ns.length) && (decide (j < ns.length) && decide (i ≠ j))) && can ns i j) := by
  show (prD ns.length (dS (i, j)) && can ns ((i : Int)).toNat ((j : Int)).toNat) = _
  rw [prD_dS]
  simp only [Int.toNat_natCast]
theorem stD_pr {ns : List Int} {d : PyData} (h : stD ns d = true) : ∃ i j : Nat, d = dS (i, j) ∧ i < ns.length ∧ j < ns.length ∧ i ≠ j ∧ can ns i j = true := by
  unfold stD at h
  split at h
  · rename_i a b
    rw [Bool.and_eq_true] at h
    obtain ⟨i, j, e, h1, h2, h3⟩ := prD_eq h.1
    refine ⟨i, j, e, h1, h2, h3, ?_⟩
    have hc := h.2
    unfold dS at e
    simp only [PyData.tuple.injEq, List.cons.injEq, and_true] at e
    obtain ⟨rfl, rfl⟩ := e
    exact hc
  · cases h
theorem stD_nopr {ns : List Int} {d : PyData} (h : prD ns.length d = false) : stD ns d = false := by
  unfold stD
  split
  · rw [h, Bool.false_and]
  · rfl
theorem getD_at {ns : List Int} {i : Nat} (h : i < ns.length) : (ns.map V.int)[i]? = some (.int (ns.getD i 0)) := by
  rw [List.getElem?_map, List.getElem?_eq_getElem h]
  show some (V.int ns[i]) = _
  congr 2
  rw [List.getD_eq_getElem?_getD, List.getElem?_eq_getElem h]
  rfl
theorem ixN_nat {n i : Nat} (h : i < n) : ixN n (i : Int) = some i := by
  unfold ixN
  rw [if_pos (by omega), if_pos (by omega)]
  simp
theorem hps_len {ns : List Int} (h : hpsB ns = true) : 2 ≤ ns.length ∧ ns.length ≤ 6 := by
  unfold hpsB at h
  simp only [Bool.and_eq_true, decide_eq_true_eq] at h
  exact h.1
/-- all ints: what stands there -/
theorem dpall_isint {K : PySem.W.Frag} {H : Hp} {l g : Int} : ∀ {vs : List V} {ds : List PyData}, DpAll K H vs ds → (ds.map (isIntD l g)).all id = true → vs = (ds.map intD).map V.int ∧ ds = (ds.map intD).map PyData.int
  | _, _, .nil, _ => ⟨rfl, rfl⟩
  | _, _, .cons h t, e => by
    rw [List.map_cons, List.all_cons, Bool.and_eq_true] at e
    obtain ⟨i, rfl, _, _⟩ := isInt_eq e.1
    cases h
    obtain ⟨e1, e2⟩ := dpall_isint t e.2
    exact ⟨by rw [List.map_cons, List.map_cons, ← e1]; rfl, by rw [List.map_cons, List.map_cons, ← e2]; rfl⟩
theorem hpsD_eq {d : PyData} (h : hpsD d = true) : ∃ ns, d = dI ns ∧ hpsB ns = true := by
  unfold hpsD at h
  split at h
  · rename_i ds
    have h0 := h
    simp only [Bool.and_eq_true] at h
    have e : ∀ (xs : List PyData), (xs.map (isIntD 0 (10 ^ 30))).all id = true → xs = (xs.map intD).map PyData.int := by
      intro xs
      induction xs with
      | nil => exact fun _ => rfl
      | cons x xs ih =>
        intro q
        rw [List.map_cons, List.all_cons, Bool.and_eq_true] at q
        obtain ⟨i, rfl, _, _⟩ := isInt_eq q.1
        have := ih q.2
        rw [List.map_cons, List.map_cons, ← this]
        rfl
    refine ⟨ds.map intD, ?_, ?_⟩
    · unfold dI
      rw [← e ds h.2.1]
    · rw [← hpsD_dI]
      unfold dI
      rw [← e ds h.2.1]
      exact h0
  · cases h
/-! ### the promises -/
def spIsInt (K : PySem.W.Frag) : Sp := fun vs H Q _ => ∃ (v : V) (d : PyData) (l g : Int), vs = [v, .int l, .int g] ∧ Dp K H v d ∧ Q (.bl (isIntD l g d)) H
def spIsHeaps (K : PySem.W.Frag) : Sp := fun vs H Q _ => ∃ (v : V) (d : PyData), vs = [v] ∧ Dp K H v d ∧ ∀ H', Same H H' → Q (.bl (hpsD d)) H'
def spChkHeapsD (K : PySem.W.Frag) (C : Addr) : Sp := fun vs H Q E => ∃ (v : V) (d : PyData), vs = [v] ∧ Dp K H v d ∧ (hpsD d = true → ∀ H', Same H H' → Q .non H') ∧ (hpsD d = false → ∀ H', Same H H' → E (.ref C) none H')
def spChkHeaps (K : PySem.W.Frag) : Sp := fun vs H Q _ => ∃ (t : Addr) (ns : List Int), vs = [.ref t] ∧ SqT K H t (ns.map V.int) ∧ hpsB ns = true ∧ ∀ H', Same H H' → Q .non H'
theorem chk_good {K : PySem.W.Frag} {C : Addr} {vs : List V} {H : Hp} {Q : VK} {E : XK} (h : spChkHeaps K vs H Q E) : spChkHeapsD K C vs H Q E0 := by
  obtain ⟨t, ns, rfl, hS, hg, k⟩ := h
  exact ⟨_, _, rfl, dp_I hS, fun _ => k, fun z => by rw [hpsD_dI, hg] at z; cases z⟩
section
variable {P : Program} {w : World} {K : PySem.W.Frag} {mg : Str → Option Value} {base : Heap}
abbrev s_is_integer : Stmt := top 10
theorem sc_is_integer : FnScope ["value", "least", "greatest"] ["value", "least", "greatest"] (defScope s_is_integer) := ⟨rfl, rfl, rfl, by decide +kernel, rfl, by decide +kernel, by decide +kernel⟩
theorem ok_is_integer {f : Addr} {fd : FuncData} (F : Fun K "is_integer" "is_integer" s_is_integer f fd) (T : Tp mg) : FnOk P w K mg base CX0 1 f fd ["value", "least", "greatest"] (spIsInt K) := by
  refine F.ok sc_is_integer (fun vs H Q E h => ?_) (fun cdv A outer s H vs Q E hr h => ?_)
  · obtain ⟨v, d, l, g, rfl, _⟩ := h
    rfl
  · obtain ⟨v, d, l, g, rfl, hd, k⟩ := h
    refine ⟨_, (pss_cons (ps_if (PW.pt (pw_or (pt_val (pe_callB call_isi (by rfl) T.isinstance (by decide +kernel) (pa_cons (pv 0) (pa_cons (pe_bltn (v := .ty "bool") (u := .type "bool") (by rfl) T.bool (by decide +kernel) rfl) pa_nil)))) (pw_or1 (pt_not (pt_val (pe_callB call_isi (by rfl) T.isinstance (by decide +kernel) (pa_cons (pv 0) (pa_cons (pe_bltn (v := .ty "int") (u := .type "int") (by rfl) T.int (by decide +kernel) rfl) pa_nil)))))))) (pss_one (ps_ret pe_bl)) pss_nil)
      (pss_one (ps_ret (pe_chain op_le op_le (pv 1) (pv 0) (pv 2))))), ?_⟩
    cases hd with
    | int v =>
      refine ⟨_, rfl, _, _, _, _, false, rfl, ClsV.ty _, .base (.int _), kit_ty (by decide +kernel), _, rfl, ?_⟩
      refine iteF ⟨_, rfl, _, _, _, _, true, rfl, ClsV.ty _, .base (.int _), kit_ty (by decide +kernel), _, rfl, ?_⟩
      refine iteF ?_
      refine ⟨_, rfl, _, rfl, _, _, rfl, rfl, _, rfl, ?_⟩
      unfold isIntD inR at k
      simp only at k
      cases hd : decide (l ≤ v) with
      | false =>
        rw [hd] at k
        exact iteF k
      | true =>
        rw [hd] at k
        exact iteT ⟨_, rfl, _, _, rfl, rfl, k⟩
    | bl b =>
      refine ⟨_, rfl, _, _, _, _, true, rfl, ClsV.ty _, .base (.bl _), kit_ty (by decide +kernel), _, rfl, ?_⟩
      exact iteT k
    | non =>
      refine ⟨_, rfl, _, _, _, _, false, rfl, ClsV.ty _, .base .non, kit_ty (by decide +kernel), _, rfl, ?_⟩
      refine iteF ⟨_, rfl, _, _, _, _, false, rfl, ClsV.ty _, .base .non, kit_ty (by decide +kernel), _, rfl, ?_⟩
      exact iteT k
    | str x =>
      refine ⟨_, rfl, _, _, _, _, false, rfl, ClsV.ty _, .base (.str _), kit_ty (by decide +kernel), _, rfl, ?_⟩
      refine iteF ⟨_, rfl, _, _, _, _, false, rfl, ClsV.ty _, .base (.str _), kit_ty (by decide +kernel), _, rfl, ?_⟩
      exact iteT k
    | lst hS _ =>
      refine ⟨_, rfl, _, _, _, _, false, rfl, ClsV.ty _, tyx_lst hS, kit_ty (by decide +kernel), _, rfl, ?_⟩
      refine iteF ⟨_, rfl, _, _, _, _, false, rfl, ClsV.ty _, tyx_lst hS, kit_ty (by decide +kernel), _, rfl, ?_⟩
      exact iteT k
    | tup hS _ =>
      refine ⟨_, rfl, _, _, _, _, false, rfl, ClsV.ty _, tyx_tup hS, kit_ty (by decide +kernel), _, rfl, ?_⟩
      refine iteF ⟨_, rfl, _, _, _, _, false, rfl, ClsV.ty _, tyx_tup hS, kit_ty (by decide +kernel), _, rfl, ?_⟩
      exact iteT k
abbrev s_is_heaps : Stmt := top 11
theorem sc_is_heaps : FnScope ["value", "heap"] ["value"] (defScope s_is_heaps) := ⟨rfl, rfl, rfl, by decide +kernel, rfl, by decide +kernel, by decide +kernel⟩
theorem ok_is_heaps {f : Addr} {fd : FuncData} (F : Fun K "is_heaps" "is_heaps" s_is_heaps f fd) (T : Tp mg) (C_is_integer : Cal P w K mg base CX0 1 "is_integer" ["value", "least", "greatest"] (spIsInt K)) : FnOk P w K mg base CX0 2 f fd ["value"] (spIsHeaps K) := by
  refine F.ok sc_is_heaps (fun vs H Q E h => ?_) (fun cdv A outer s H vs Q E hr h => ?_)
  · obtain ⟨v, d, rfl, _⟩ := h
    rfl
  · obtain ⟨v, d, rfl, hd, k⟩ := h
    refine ⟨_, (pss_cons (ps_if (PW.pt (pw_or (pt_not (pt_val (pe_callB call_isi (by rfl) T.isinstance (by decide +kernel) (pa_cons (pv 0) (pa_cons (pe_bltn (v := .ty "tuple") (u := .type "tuple") (by rfl) T.tuple (by decide +kernel) rfl) pa_nil))))) (pw_or1 (pt_not (pt_chain op_le op_le (pe_gint rfl T.c_FEWEST_HEAPS) (pe_callB call_len_seq (by rfl) T.len PySem.boot_len (pa_cons (pv 0) pa_nil)) (pe_gint rfl T.c_MOST_HEAPS)))))) (pss_one (ps_ret pe_bl)) pss_nil)
      (pss_one (ps_ret (pe_and (pe_callB (cr_all rfl) (by rfl) T.all (by decide +kernel) (pa_cons (pe_lc (own := [("heap", 1)]) (g := gName 1) (by rfl) sc_is_heaps.nd (pi_tup (pv 0)) (blkOk_by (own := [("heap", 1)]) (N := ["value", "heap"]) (sc := defScope s_is_heaps) (by decide +kernel)) (fun _ _ _ _ _ => pg_name (i := 1) sc_is_heaps.nd rfl (Or.inl rfl)) (fun _ _ _ _ _ => pts_nil) (fun _ _ _ _ _ => (pe_cal C_is_integer hr rfl pass0 (pa_cons (pv 1) (pa_cons pe_int (pa_cons (pe_gint rfl T.c_GREATEST) pa_nil)))))) pa_nil)) (pe_one (pe_cmpR op_gt (pe_callB (cr_sumT rfl) (by rfl) T.sum (by decide +kernel) (pa_cons (pv 0) pa_nil)) pe_int (nomark _))))))), ?_⟩
    cases hd with
    | int v => exact ⟨_, rfl, _, _, _, _, false, rfl, ClsV.ty _, .base (.int _), kit_ty (by decide +kernel), _, rfl, iteT (k H (Same.refl _))⟩
    | bl b => exact ⟨_, rfl, _, _, _, _, false, rfl, ClsV.ty _, .base (.bl _), kit_ty (by decide +kernel), _, rfl, iteT (k H (Same.refl _))⟩
    | non => exact ⟨_, rfl, _, _, _, _, false, rfl, ClsV.ty _, .base .non, kit_ty (by decide +kernel), _, rfl, iteT (k H (Same.refl _))⟩
    | str x => exact ⟨_, rfl, _, _, _, _, false, rfl, ClsV.ty _, .base (.str _), kit_ty (by decide +kernel), _, rfl, iteT (k H (Same.refl _))⟩
    | lst hS _ => exact ⟨_, rfl, _, _, _, _, false, rfl, ClsV.ty _, tyx_lst hS, kit_ty (by decide +kernel), _, rfl, iteT (k H (Same.refl _))⟩
    | @tup t xs ds hS hA =>
    refine ⟨_, rfl, _, _, _, _, true, rfl, ClsV.ty _, tyx_tup hS, kit_ty (by decide +kernel), _, rfl, ?_⟩
    refine iteF ?_
    refine ⟨_, rfl, t, _, rfl, .inr hS, _, _, rfl, rfl, _, rfl, ?_⟩
    have hxl := dpall_len hA
    unfold hpsD at k
    simp only at k
    rw [← hxl] at k
    cases h2 : decide (2 ≤ xs.length) with
    | false =>
      have z : decide ((2 : Int) ≤ (xs.length : Int)) = false := decide_eq_false fun z => (of_decide_eq_false h2) (by omega)
      rw [z]
      refine iteF ⟨_, rfl, iteT ?_⟩
      rw [h2] at k
      exact k H (Same.refl _)
    | true =>
      have z : decide ((2 : Int) ≤ (xs.length : Int)) = true := decide_eq_true (by have := of_decide_eq_true h2; omega)
      rw [z]
      refine iteT ⟨_, _, rfl, rfl, _, rfl, ?_⟩
      cases h6 : decide (xs.length ≤ 6) with
      | false =>
        have z : decide ((xs.length : Int) ≤ 6) = false := decide_eq_false fun z => (of_decide_eq_false h6) (by omega)
        rw [z]
        refine iteT ?_
        rw [h2, h6] at k
        exact k H (Same.refl _)
      | true =>
        have z : decide ((xs.length : Int) ≤ 6) = true := decide_eq_true (by have := of_decide_eq_true h6; omega)
        rw [z]
        refine iteF ?_
        rw [h2, h6] at k
        have hx6 := of_decide_eq_true h6
        refine ⟨_, rfl, t, rfl, ⟨_, hS⟩, fun D hD => lc_tup (K := K) (a := t) (xs := xs) (fun i H1 => H1 D = some (.lst (((ds.take i).map (isIntD 0 (10 ^ 30))).map V.bl)) ∧ Same H H1) ⟨upd_same, Same.new hD⟩ (fun i H1 _ q => Same.tup q.2 hS) ?_ ?_⟩
        · rintro i x H1 hi ⟨hL, s1⟩
          obtain ⟨dx, hdx, hx⟩ := dpall_get hA hi
          refine ⟨rfl, _, rfl, x, dx, 0, 10 ^ 30, rfl, dp_same s1 hx, _, hL, ?_, ?_⟩
          · rw [List.length_map, List.length_map, List.length_take, sizeLine_eq]
            omega
          · refine ⟨?_, same_upd s1 hD⟩
            rw [upd_same, List.take_add_one, hdx]
            simp
        · rintro H1 ⟨hL, s1⟩
          rw [hxl, List.take_length] at hL
          refine ⟨D, _, rfl, SqL.of hL, _, rfl, ?_⟩
          cases ha : (ds.map (isIntD 0 (10 ^ 30))).all id with
          | false =>
            rw [ha] at k
            exact iteF (k _ s1)
          | true =>
            rw [ha] at k
            obtain ⟨e1, _⟩ := dpall_isint hA ha
            rw [e1] at hS
            exact iteT ⟨_, rfl, t, _, rfl, Same.tup s1 hS, _, _, rfl, rfl, k _ s1⟩
abbrev s_check_heaps : Stmt := top 13
theorem sc_check_heaps : FnScope ["heaps"] ["heaps"] (defScope s_check_heaps) := ⟨rfl, rfl, rfl, by decide +kernel, rfl, by decide +kernel, by decide +kernel⟩
theorem ok_check_heaps {f C : Addr} {fd : FuncData} (F : Fun K "check_heaps" "check_heaps" s_check_heaps f fd) (T : Tp mg) (B : NilX P K mg "BadHeaps" C) (C_is_heaps : Cal P w K mg base CX0 2 "is_heaps" ["value"] (spIsHeaps K)) : FnOk P w K mg base (L2.CX P w) 3 f fd ["heaps"] (spChkHeapsD K C) := by
  refine F.okX sc_check_heaps (fun vs H Q E h => ?_) (fun cdv A outer s H vs Q E hr h => ?_)
  · obtain ⟨v, d, rfl, _⟩ := h
    rfl
  · obtain ⟨v, d, rfl, hd, k1, k2⟩ := h
    refine ⟨_, (pss_one (ps_if (pt_not (pt_val (pe_cal C_is_heaps hr rfl pass0 (pa_cons (pv 0) pa_nil)))) (pss_one (ps_raise rfl (takes_of rfl rfl rfl rfl) (pmk_nil B (hr.mono (by decide : 1 ≤ 2)) rfl))) pss_nil)), ?_⟩
    refine ⟨_, rfl, v, d, rfl, hd, fun H1 s1 => ⟨_, rfl, ?_⟩⟩
    cases hg : hpsD d with
    | true => exact iteF (k1 hg _ s1)
    | false => exact iteT (k2 hg _ s1)
end
end Hd
set_option maxHeartbeats 4000000
/-! Steps and what they do. -/
namespace Hd
open PySem PySem.Spec PyProof.Rows L2
/-- a step's tuple at its address, its two numbers -/
abbrev Srow := Addr × Nat × Nat
def StAt (K : PySem.W.Frag) (H : Hp) (n : Nat) (p : Srow) : Prop := SqT K H p.1 [.int (p.2.1 : Int), .int (p.2.2 : Int)] ∧ p.2.1 < n ∧ p.2.2 < n ∧ p.2.1 ≠ p.2.2
/-- a list at l of steps' tuples -/
structure PrL (K : PySem.W.Frag) (H : Hp) (l : Addr) (n : Nat) (ps : List Srow) : Prop where
  ls : H l = some (.lst (ps.map fun p => V.ref p.1))
  st : ∀ p ∈ ps, StAt K H n p
theorem StAt.same {K : PySem.W.Frag} {H H' : Hp} {n : Nat} {p : Srow} (e : Same H H') (h : StAt K H n p) : StAt K H' n p := ⟨Same.tup e h.1, h.2⟩
theorem PrL.same {K : PySem.W.Frag} {H H' : Hp} {t : Addr} {n : Nat} {ps : List Srow} (e : Same H H') (h : PrL K H t n ps) : PrL K H' t n ps := ⟨e _ _ h.ls, fun p hp => (h.st p hp).same e⟩
theorem PrL.stp {K : PySem.W.Frag} {H : Hp} {t : Addr} {n : Nat} {ps : List Srow} (h : PrL K H t n ps) : Stp n (ps.map (·.2)) := fun p hp => by
  obtain ⟨z, hz, rfl⟩ := List.mem_map.mp hp
  exact (h.st z hz).2
/-- a tuple stays where a list is written -/
theorem tup_at {K : PySem.W.Frag} {H : Hp} {l a : Addr} {xs ys : List V} {o : HO} (hl : H l = some (.lst ys)) (h : SqT K H a xs) : SqT K (upd H l o) a xs := by
  rcases h with (h | ⟨u, h⟩) | h
  · exact .inl (.inl (by rw [upd_ne (ne_of h hl (by intro z; cases z))]; exact h))
  · exact .inl (.inr ⟨u, by rw [upd_ne (ne_of h hl (by intro z; cases z))]; exact h⟩)
  · exact .inr h
theorem StAt.at_ {K : PySem.W.Frag} {H : Hp} {l : Addr} {ys : List V} {o : HO} {n : Nat} {p : Srow} (hl : H l = some (.lst ys)) (h : StAt K H n p) : StAt K (upd H l o) n p := ⟨tup_at hl h.1, h.2⟩
/-- .. more of them -/
theorem PrL.more {K : PySem.W.Frag} {H : Hp} {l : Addr} {n : Nat} {ps qs : List Srow} (h : PrL K H l n ps) (hq : ∀ p ∈ qs, StAt K H n p) : PrL K (upd H l (.lst (ps.map (fun p => V.ref p.1) ++ qs.map fun p => V.ref p.1))) l n (ps ++ qs) :=
  ⟨by rw [upd_same, List.map_append], fun p hp => (List.mem_append.mp hp).elim (fun z => (h.st p z).at_ h.ls) fun z => (hq p z).at_ h.ls⟩
def spShifted (K : PySem.W.Frag) : Sp := fun vs H Q _ => ∃ (t u : Addr) (ns : List Int) (i j : Nat) (m : Int), vs = [.ref t, .ref u, .int m] ∧ SqT K H t (ns.map V.int) ∧ SqT K H u [.int (i : Int), .int (j : Int)] ∧ i < ns.length ∧ j < ns.length ∧ i ≠ j ∧
  ∀ (p : Addr) (H' : Hp), Same H H' → H p = none → H' p = some (.tup ((shf ns i j m).map V.int)) → Q (.ref p) H'
def spBehind (K : PySem.W.Frag) : Sp := fun vs H Q _ => ∃ (t u : Addr) (ns : List Int) (i j : Nat), vs = [.ref t, .ref u] ∧ SqT K H t (ns.map V.int) ∧ SqT K H u [.int (i : Int), .int (j : Int)] ∧ i < ns.length ∧ j < ns.length ∧ i ≠ j ∧
  ∀ (p : Addr) (H' : Hp), Same H H' → H p = none → H' p = some (.tup ((mv ns i j).map V.int)) → Q (.ref p) H'
def spShiftedZ (K : PySem.W.Frag) : Sp := fun vs H Q _ => ∃ (t u : Addr) (ns : List Int) (i j : Nat) (m : Int), vs = [.ref t, .ref u, .int m] ∧ SqT K H t (ns.map V.int) ∧ SqT K H u [.int (i : Int), .int (j : Int)] ∧ i < ns.length ∧ j < ns.length ∧ i ≠ j ∧
  ∀ (p : Addr) (H' : Hp), Same H H' → H p = none → TupZ H' p ((shf ns i j m).map V.int) → Q (.ref p) H'
def spBehindZ (K : PySem.W.Frag) : Sp := fun vs H Q _ => ∃ (t u : Addr) (ns : List Int) (i j : Nat), vs = [.ref t, .ref u] ∧ SqT K H t (ns.map V.int) ∧ SqT K H u [.int (i : Int), .int (j : Int)] ∧ i < ns.length ∧ j < ns.length ∧ i ≠ j ∧
  ∀ (p : Addr) (H' : Hp), Same H H' → H p = none → TupZ H' p ((mv ns i j).map V.int) → Q (.ref p) H'
theorem thaw_shifted {K : PySem.W.Frag} {vs : List V} {H : Hp} {Q : VK} {E : XK} (h : spShifted K vs H Q E) : spShiftedZ K vs H (fun v H' => ∃ a o xs, v = .ref a ∧ H a = none ∧ H' a = some (.frz o (.tup xs)) ∧ Q v (upd H' a (.tup xs))) E := by
  obtain ⟨t, u, ns, i, j, m, rfl, hS, hU, hi, hj, hij, k⟩ := h
  exact ⟨t, u, ns, i, j, m, rfl, hS, hU, hi, hj, hij, fun p H' s hp ⟨o, _, hz⟩ => ⟨p, o, _, rfl, hp, hz, k p _ (same_thaw s hp) hp upd_same⟩⟩
theorem thaw_behind {K : PySem.W.Frag} {vs : List V} {H : Hp} {Q : VK} {E : XK} (h : spBehind K vs H Q E) : spBehindZ K vs H (fun v H' => ∃ a o xs, v = .ref a ∧ H a = none ∧ H' a = some (.frz o (.tup xs)) ∧ Q v (upd H' a (.tup xs))) E := by
  obtain ⟨t, u, ns, i, j, rfl, hS, hU, hi, hj, hij, k⟩ := h
  exact ⟨t, u, ns, i, j, rfl, hS, hU, hi, hj, hij, fun p H' s hp ⟨o, _, hz⟩ => ⟨p, o, _, rfl, hp, hz, k p _ (same_thaw s hp) hp upd_same⟩⟩
def spBehindAll (K : PySem.W.Frag) : Sp := fun vs H Q _ => ∃ (t u : Addr) (ns m : List Int) (ps : List Srow), vs = [.ref t, .ref u] ∧ SqT K H t (ns.map V.int) ∧ PrL K H u ns.length ps ∧ run ns (ps.map (·.2)) = some m ∧
  ∀ (p : Addr) (H' : Hp), Same H H' → SqT K H' p (m.map V.int) → Q (.ref p) H'
def spCan (K : PySem.W.Frag) : Sp := fun vs H Q _ => ∃ (t u : Addr) (ns : List Int) (i j : Nat), vs = [.ref t, .ref u] ∧ SqT K H t (ns.map V.int) ∧ SqT K H u [.int (i : Int), .int (j : Int)] ∧ i < ns.length ∧ j < ns.length ∧ Q (.bl (can ns i j)) H
def spIsPair (K : PySem.W.Frag) : Sp := fun vs H Q _ => ∃ (v : V) (d : PyData) (n : Int), vs = [.int n, v] ∧ Dp K H v d ∧ Q (.bl (prD n d)) H
def spChkStep (K : PySem.W.Frag) (C : Addr) : Sp := fun vs H Q E => ∃ (t : Addr) (v : V) (d : PyData) (ns : List Int), vs = [.ref t, v] ∧ SqT K H t (ns.map V.int) ∧ Dp K H v d ∧ (stD ns d = true → Q .non H) ∧ (stD ns d = false → E (.ref C) none H)
def spPairs (K : PySem.W.Frag) : Sp := fun vs H Q _ => ∃ n : Nat, vs = [.int (n : Int)] ∧ n ≤ 6 ∧ ∀ (l : Addr) (qs : List (Addr × Nat × Nat)) (H' : Hp), Same H H' → H l = none → PrL K H' l n qs → qs.map (·.2) = prs n → Q (.ref l) H'
def spSteps (K : PySem.W.Frag) : Sp := fun vs H Q _ => ∃ (t : Addr) (ns : List Int), vs = [.ref t] ∧ SqT K H t (ns.map V.int) ∧ ns.length ≤ 6 ∧ ∀ (l : Addr) (qs : List (Addr × Nat × Nat)) (H' : Hp), Same H H' → H l = none → PrL K H' l ns.length qs → qs.map (·.2) = due ns → Q (.ref l) H'
/-- a list at l of heaps, each a tuple -/
abbrev Hrow := Addr × List Int
structure HpL (K : PySem.W.Frag) (H : Hp) (l : Addr) (hs : List Hrow) : Prop where
  ls : H l = some (.lst (hs.map fun p => V.ref p.1))
  st : ∀ p ∈ hs, SqT K H p.1 (p.2.map V.int)
theorem HpL.same {K : PySem.W.Frag} {H H' : Hp} {t : Addr} {hs : List Hrow} (e : Same H H') (h : HpL K H t hs) : HpL K H' t hs := ⟨e _ _ h.ls, fun p hp => Same.tup e (h.st p hp)⟩
def spAllBehind (K : PySem.W.Frag) : Sp := fun vs H Q _ => ∃ (t : Addr) (ns : List Int), vs = [.ref t] ∧ SqT K H t (ns.map V.int) ∧ ns.length ≤ 6 ∧ ∀ (l : Addr) (hs : List Hrow) (H' : Hp), Same H H' → H l = none → HpL K H' l hs → hs.map (·.2) = (due ns).map (fun q => mv ns q.1 q.2) → (∀ p ∈ hs, H p.1 = none ∧ H' p.1 = some (.tup (p.2.map V.int))) → Q (.ref l) H'
/-- a plan at t: each step's tuple, its two numbers -/
structure PlanAt (K : PySem.W.Frag) (H : Hp) (t : Addr) (n : Nat) (ps : List Srow) : Prop where
  tp : SqT K H t (ps.map fun p => V.ref p.1)
  st : ∀ p ∈ ps, StAt K H n p
theorem PlanAt.same {K : PySem.W.Frag} {H H' : Hp} {t : Addr} {n : Nat} {ps : List Srow} (e : Same H H') (h : PlanAt K H t n ps) : PlanAt K H' t n ps := ⟨Same.tup e h.tp, fun p hp => (h.st p hp).same e⟩
theorem dpall_P {K : PySem.W.Frag} {H : Hp} {n : Nat} : ∀ ps : List Srow, (∀ p ∈ ps, StAt K H n p) → DpAll K H (ps.map fun p => V.ref p.1) ((ps.map (·.2)).map dS)
  | [], _ => .nil
  | p :: ps, h => .cons (dp_S (h p (List.mem_cons_self ..)).1) (dpall_P ps fun q hq => h q (List.mem_cons_of_mem _ hq))
theorem PlanAt.dp {K : PySem.W.Frag} {H : Hp} {t : Addr} {n : Nat} {ps : List Srow} (h : PlanAt K H t n ps) : Dp K H (.ref t) (dP (ps.map (·.2))) := .tup h.tp (dpall_P ps h.st)
theorem PrL.dp {K : PySem.W.Frag} {H : Hp} {t : Addr} {n : Nat} {ps : List Srow} (h : PrL K H t n ps) : Dp K H (.ref t) (.list ((ps.map (·.2)).map dS)) := .lst (SqL.of h.ls) (dpall_P ps h.st)
def spChkPlan (K : PySem.W.Frag) : Sp := fun vs H Q _ => ∃ (t : Addr) (n : Nat) (ps : List Srow), vs = [.int (n : Int), .ref t] ∧ PlanAt K H t n ps ∧ ps.length ≤ 20000 ∧ ∀ H', Same H H' → Q .non H'
theorem dec_int (a b : Int) : decide (V.int a = V.int b) = decide (a = b) := by
  by_cases z : a = b
  · subst z
    rw [decide_eq_true rfl, decide_eq_true rfl]
  · rw [decide_eq_false z, decide_eq_false fun q => z (V.int.inj q)]
/-- a loop over range(n), whatever its body -/
theorem over_range {n : Nat} {H0 : Hp} {Qd : Hp → Prop} {body : V → Hp → (Hp → Prop) → Prop} (Pv : Nat → Hp → Prop) (h0 : Pv 0 H0) (hs : ∀ i H, i < n → Pv i H → body (.int (0 + (i : Int))) H (Pv (i + 1))) (hd : ∀ H, Pv n H → Qd H) :
    ∃ W : Nat → Nat → Hp → Prop, (∃ m, W 0 m H0) ∧ ∀ i m H, W i m H → ((Itr 0 n).stop i H ∧ Qd H) ∨ ((Itr 0 n).go i H ∧ ∃ Nx : Hp → Prop, (∀ H', Nx H' → ∃ m', m' < m ∧ W (i + 1) m' H') ∧ ∀ x H', (Itr 0 n).yld i H x H' → body x H' Nx) := by
  refine ⟨fun i m H => m + i = n ∧ Pv i H, ⟨n, rfl, h0⟩, fun i m H ⟨e, p⟩ => ?_⟩
  by_cases lt : i < n
  · refine .inr ⟨lt, Pv (i + 1), fun H' p' => ⟨m - 1, by omega, by omega, p'⟩, fun x H' y => ?_⟩
    rw [y.1, y.2]
    exact hs i H lt p
  · have e2 : i = n := by omega
    rw [e2] at p ⊢
    exact .inl ⟨Nat.le_refl n, hd H p⟩
def dbl (x : Int) : Bool := decide (0 < x) && decide (x % 2 = 0)
def erl (ns : List Int) (i j : Nat) : List Int := shf ns i j (-(ns.getD j 0 / 2))
def spDbl : Sp := fun vs H Q _ => ∃ x : Int, vs = [.int x] ∧ Q (.bl (dbl x)) H
def spErl (K : PySem.W.Frag) : Sp := fun vs H Q _ => ∃ (t u : Addr) (ns : List Int) (i j : Nat), vs = [.ref t, .ref u] ∧ SqT K H t (ns.map V.int) ∧ SqT K H u [.int (i : Int), .int (j : Int)] ∧ i < ns.length ∧ j < ns.length ∧ i ≠ j ∧
  ∀ (p : Addr) (H' : Hp), Same H H' → H p = none → H' p = some (.tup ((erl ns i j).map V.int)) → Q (.ref p) H'
section
variable {P : Program} {w : World} {K : PySem.W.Frag} {mg : Str → Option Value} {base : Heap}
abbrev s_is_pair_of : Stmt := top 12
theorem sc_is_pair_of : FnScope ["many", "value", "one", "other"] ["many", "value"] (defScope s_is_pair_of) := ⟨rfl, rfl, rfl, by decide +kernel, rfl, by decide +kernel, by decide +kernel⟩
theorem ok_is_pair_of {f : Addr} {fd : FuncData} (F : Fun K "is_pair_of" "is_pair_of" s_is_pair_of f fd) (T : Tp mg) (C_is_integer : Cal P w K mg base CX0 1 "is_integer" ["value", "least", "greatest"] (spIsInt K)) : FnOk P w K mg base CX0 2 f fd ["many", "value"] (spIsPair K) := by
  refine F.ok sc_is_pair_of (fun vs H Q E h => ?_) (fun cdv A outer s H vs Q E hr h => ?_)
  · obtain ⟨v, d, n, rfl, _⟩ := h
    rfl
  · obtain ⟨v, d, n, rfl, hd, k⟩ := h
    refine ⟨_, (pss_cons (ps_if (PW.pt (pw_or (pt_not (pt_val (pe_callB call_isi (by rfl) T.isinstance (by decide +kernel) (pa_cons (pv 1) (pa_cons (pe_bltn (v := .ty "tuple") (u := .type "tuple") (by rfl) T.tuple (by decide +kernel) rfl) pa_nil))))) (pw_or1 (pt_cmpR op_ne (pe_callB call_len_seq (by rfl) T.len PySem.boot_len (pa_cons (pv 1) pa_nil)) pe_int (nomark _))))) (pss_one (ps_ret pe_bl)) pss_nil)
      (pss_cons (ps_asg (pv 1) (pg_tup rfl (pgs_cons (pg_name (i := 2) sc_is_pair_of.nd rfl (Or.inl rfl)) (pgs_cons (pg_name (i := 3) sc_is_pair_of.nd rfl (Or.inl rfl)) pgs_nil))))
      (pss_one (ps_ret (pe_and (pe_cal C_is_integer hr rfl pass0 (pa_cons (pv 2) (pa_cons pe_int (pa_cons (pe_op op_sub (pv 0) pe_int) pa_nil)))) (pe_and (pe_cal C_is_integer hr rfl pass0 (pa_cons (pv 3) (pa_cons pe_int (pa_cons (pe_op op_sub (pv 0) pe_int) pa_nil)))) (pe_one (pe_cmpR op_ne (pv 2) (pv 3) (nomark _))))))))), ?_⟩
    cases hd with
    | int v => exact ⟨_, rfl, _, _, _, _, false, rfl, ClsV.ty _, .base (.int _), kit_ty (by decide +kernel), _, rfl, iteT k⟩
    | bl b => exact ⟨_, rfl, _, _, _, _, false, rfl, ClsV.ty _, .base (.bl _), kit_ty (by decide +kernel), _, rfl, iteT k⟩
    | non => exact ⟨_, rfl, _, _, _, _, false, rfl, ClsV.ty _, .base .non, kit_ty (by decide +kernel), _, rfl, iteT k⟩
    | str x => exact ⟨_, rfl, _, _, _, _, false, rfl, ClsV.ty _, .base (.str _), kit_ty (by decide +kernel), _, rfl, iteT k⟩
    | lst hS _ => exact ⟨_, rfl, _, _, _, _, false, rfl, ClsV.ty _, tyx_lst hS, kit_ty (by decide +kernel), _, rfl, iteT k⟩
    | @tup t xs ds hS hA =>
    refine ⟨_, rfl, _, _, _, _, true, rfl, ClsV.ty _, tyx_tup hS, kit_ty (by decide +kernel), _, rfl, ?_⟩
    refine iteF ?_
    have hxl := dpall_len hA
    by_cases h2 : xs.length = 2
    · obtain ⟨x, y, rfl⟩ : ∃ x y, xs = [x, y] := by
        match xs, h2 with
        | [x, y], _ => exact ⟨x, y, rfl⟩
      cases hA with
      | @cons _ _ a _ ha hB =>
      cases hB with
      | @cons _ _ b _ hb hC =>
      cases hC
      refine ⟨_, rfl, t, _, rfl, .inr hS, rfl, _, rfl, iteNS rfl ?_⟩
      refine ⟨_, rfl, t, _, rfl, hS, rfl, _, _, rfl, _, _, rfl, rfl, ?_⟩
      refine ⟨_, rfl, _, rfl, _, _, rfl, rfl, _, _, _, _, rfl, ha, _, rfl, ?_⟩
      unfold prD at k
      simp only at k
      cases ha1 : isIntD 0 (n - 1) a with
      | false =>
        rw [ha1] at k
        exact iteF k
      | true =>
        rw [ha1] at k
        obtain ⟨i, rfl, _, _⟩ := isInt_eq ha1
        cases ha
        refine iteT ⟨_, rfl, _, rfl, _, _, rfl, rfl, _, _, _, _, rfl, hb, _, rfl, ?_⟩
        cases hb1 : isIntD 0 (n - 1) b with
        | false =>
          rw [hb1] at k
          exact iteF k
        | true =>
          rw [hb1] at k
          obtain ⟨j, rfl, _, _⟩ := isInt_eq hb1
          cases hb
          refine iteT ⟨_, rfl, _, rfl, rfl, ?_⟩
          rw [dec_int]
          exact k
    · have e0 : prD n (.tuple ds) = false := by
        unfold prD
        split
        · rename_i a b e
          cases e
          exact absurd hxl h2
        · rfl
      rw [e0] at k
      refine ⟨_, rfl, t, _, rfl, .inr hS, rfl, _, rfl, ?_⟩
      rw [decide_eq_false (show ¬ V.int (xs.length : Int) = V.int 2 from fun z => h2 (by have := V.int.inj z; omega))]
      exact iteT k
abbrev s_check_plan : Stmt := top 14
theorem sc_check_plan : FnScope ["many", "plan", "index", "step"] ["many", "plan"] (defScope s_check_plan) := ⟨rfl, rfl, rfl, by decide +kernel, rfl, by decide +kernel, by decide +kernel⟩
theorem ok_check_plan {f : Addr} {fd : FuncData} (F : Fun K "check_plan" "check_plan" s_check_plan f fd) (T : Tp mg) (c_LP : ∃ t, mg "LONGEST_PLAN" = some (.int 20000 t)) (C_is_pair_of : Cal P w K mg base CX0 2 "is_pair_of" ["many", "value"] (spIsPair K)) : FnOk P w K mg base CX0 3 f fd ["many", "plan"] (spChkPlan K) := by
  refine F.ok sc_check_plan (fun vs H Q E h => ?_) (fun cdv A outer s H vs Q E hr h => ?_)
  · obtain ⟨t, n, ps, rfl, _⟩ := h
    rfl
  · obtain ⟨t, n, ps, rfl, hP, hl, k⟩ := h
    refine ⟨_, (pss_cons (ps_if (PW.pt (pw_or (pt_not (pt_val (pe_callB call_isi (by rfl) T.isinstance (by decide +kernel) (pa_cons (pv 1) (pa_cons (pe_bltn (v := .ty "tuple") (u := .type "tuple") (by rfl) T.tuple (by decide +kernel) rfl) pa_nil))))) (pw_or1 (pt_cmpR op_gt (pe_callB call_len_seq (by rfl) T.len PySem.boot_len (pa_cons (pv 1) pa_nil)) (pe_gint rfl c_LP) (nomark _))))) (pss_one ps_never) pss_nil)
      (pss_one (ps_for PassesOwn.never rfl (pi_enumT (by rfl) T.enumerate (pa_cons (pv 1) pa_nil)) (pg_tup rfl (pgs_cons (pg_name (i := 2) sc_check_plan.nd rfl (Or.inl rfl)) (pgs_cons (pg_name (i := 3) sc_check_plan.nd rfl (Or.inl rfl)) pgs_nil)))
      (pss_one (ps_if (pt_not (pt_val (pe_cal C_is_pair_of hr rfl pass0 (pa_cons (pv 0) (pa_cons (pv 3) pa_nil))))) (pss_one ps_never) pss_nil))))), ?_⟩
    refine ⟨_, rfl, _, _, _, _, true, rfl, ClsV.ty _, tyx_tup hP.tp, kit_ty (by decide +kernel), _, rfl, ?_⟩
    refine iteF ?_
    refine ⟨_, rfl, t, _, rfl, .inr hP.tp, _, _, rfl, rfl, _, rfl, ?_⟩
    rw [List.length_map]
    have z : decide ((20000 : Int) < (ps.length : Int)) = false := decide_eq_false (by omega)
    rw [z]
    refine iteF ?_
    refine ⟨_, rfl, t, _, rfl, hP.tp, for_it (walk_enumT (K := K) (a := t) (xs := ps.map fun p => V.ref p.1)) (fun i σ H1 => ∃ v1 v2 : Option V, σ = [some (.int (n : Int)), some (.ref t), v1, v2] ∧ Same H H1) ⟨none, none, rfl, Same.refl _⟩ (fun i σ H1 _ ⟨_, _, _, s1⟩ => Same.tup s1 hP.tp) ?_ ?_⟩
    · rintro i x σ H1 H2 hi ⟨v1, v2, rfl, s1⟩ ⟨TT, x1, x2, rfl, hT, rfl, e1, e2⟩
      rw [List.length_map] at hi
      have e1' := Option.some.inj e1
      subst e1'
      dsimp only at e2
      rw [List.getElem?_map, List.getElem?_eq_getElem hi] at e2
      have e2' := Option.some.inj e2
      subst e2'
      have s2 : Same H (upd H1 TT (.tup [.int (i : Nat), .ref ps[i].1])) := s1.trans (Same.new hT)
      obtain ⟨q1, q2, q3, q4⟩ := hP.st ps[i] (List.getElem_mem hi)
      refine ⟨TT, _, rfl, SqT.of upd_same, rfl, _, _, rfl, _, _, rfl, rfl, ?_⟩
      refine ⟨_, rfl, _, rfl, _, dS (ps[i].2.1, ps[i].2.2), _, rfl, dp_S (Same.tup s2 q1), _, rfl, ?_⟩
      have g : prD (n : Int) (dS (ps[i].2.1, ps[i].2.2)) = true := by rw [prD_dS, decide_eq_true q2, decide_eq_true q3, decide_eq_true q4]; rfl
      rw [g]
      exact iteF ⟨_, _, rfl, s2⟩
    · rintro σ H1 ⟨v1, v2, rfl, s1⟩
      exact k _ s1
end
end Hd
set_option maxHeartbeats 4000000
/-! Texts as lists of signs: lines, words, numbers; what a text of heaps and a plan says. -/
namespace Hd
open PySem PySem.Spec PyProof.Rows L2 TL NumText
def lns (l : List Nat) : List (List Nat) := spl [10] 0 [] l
def wds (l : List Nat) : List (List Nat) := (spl [32] 0 [] l).filter fun w => !w.isEmpty
theorem spl_ne {S : List Nat} : ∀ (l acc : List Nat) (k : Nat), spl S k acc l ≠ []
  | [], acc, k => by rw [spl_nil]; simp
  | c :: r, acc, 0 => by
    show (if pre S (c :: r) = true then acc :: spl S (S.length - 1) [] r else spl S 0 (acc ++ [c]) r) ≠ []
    split
    · simp
    · exact spl_ne r _ 0
  | c :: r, acc, k + 1 => spl_ne r acc k
theorem lns_ne (l : List Nat) : lns l ≠ [] := spl_ne l [] 0
theorem spl_sep {s : Nat} {acc r : List Nat} : spl [s] 0 acc (s :: r) = acc :: spl [s] 0 [] r := by
  rw [spl_hit (by show ([s] == [s]) = true; simp)]
  rfl
theorem wds_nil : wds [] = [] := rfl
theorem wds_sp (l : List Nat) : wds (32 :: l) = wds l := by
  unfold wds
  rw [spl_sep]
  rfl
theorem wds_sps (k : Nat) (l : List Nat) : wds (List.replicate k 32 ++ l) = wds l := by
  induction k with
  | zero => rfl
  | succ k ih =>
    rw [List.replicate_succ, List.cons_append, wds_sp, ih]
theorem wds_word {w : List Nat} (hw : w ≠ []) (hs : 32 ∉ w) (l : List Nat) : wds (w ++ 32 :: l) = w :: wds l := by
  unfold wds
  have e : spl [32] 0 [] (w ++ ([32] ++ l)) = ([] ++ w) :: spl [32] 0 [] l := spl_part1 hs
  rw [List.singleton_append] at e
  rw [e, List.nil_append, List.filter_cons]
  cases w with
  | nil => exact absurd rfl hw
  | cons _ _ => rfl
theorem wds_last {w : List Nat} (hw : w ≠ []) (hs : 32 ∉ w) : wds w = [w] := by
  unfold wds
  rw [spl_last1 hs, List.nil_append]
  cases w with
  | nil => exact absurd rfl hw
  | cons _ _ => rfl
theorem wds_join : ∀ {ws : List (List Nat)}, (∀ w ∈ ws, w ≠ [] ∧ 32 ∉ w) → wds (joinL [32] ws) = ws
  | [], _ => rfl
  | [w], h => by
    obtain ⟨a, b⟩ := h w (List.mem_singleton.mpr rfl)
    exact wds_last a b
  | w :: v :: r, h => by
    obtain ⟨a, b⟩ := h w (List.mem_cons_self ..)
    show wds (w ++ ([32] ++ joinL [32] (v :: r))) = _
    rw [List.singleton_append, wds_word a b, wds_join fun x hx => h x (List.mem_cons_of_mem _ hx)]
/-! ### numbers -/
def digB (l : List Nat) : Bool := l.all fun c => decide (48 ≤ c) && decide (c ≤ 57)
theorem digB_iff {l : List Nat} : digB l = true ↔ AllDigits l := by
  unfold digB AllDigits
  simp only [List.all_eq_true, Bool.and_eq_true, decide_eq_true_eq]
def isNm (g : Nat) (l : List Nat) : Bool := (!decide ((numL g).length < l.length)) && (digB l && !l.isEmpty) && (decide (numL (digitsVal l) = l) && decide (digitsVal l ≤ g))
theorem numL_one {n : Nat} (h : n < 10) : (numL n).length = 1 := by
  rw [numL_lt h]
  rfl
theorem len_big : (numL (10 ^ 30)).length = 31 := by decide +kernel
/-- a number that is not too great -/
theorem isNm_num {g n : Nat} (hg : g = 10 ^ 30 ∨ g < 10) (h : n ≤ g) : isNm g (numL n) = true := by
  have hl : (numL n).length ≤ (numL g).length := by
    rcases hg with e | e
    · rw [e, len_big]
      refine numL_len (by decide) (Nat.lt_of_le_of_lt h ?_)
      rw [e]
      decide
    · rw [numL_one e, numL_one (by omega)]
      exact Nat.le_refl _
  unfold isNm
  rw [decide_eq_false (by omega), digB_iff.mpr (numL_digits n), numL_val, decide_eq_true rfl, decide_eq_true h]
  have : (numL n).isEmpty = false := by
    cases e : numL n with
    | nil => exact absurd e (numL_ne n)
    | cons _ _ => rfl
  rw [this]
  rfl
/-- only numbers are -/
theorem isNm_eq {g : Nat} {l : List Nat} (h : isNm g l = true) : l = numL (digitsVal l) ∧ digitsVal l ≤ g ∧ AllDigits l ∧ l ≠ [] ∧ l.length ≤ (numL g).length := by
  unfold isNm at h
  simp only [Bool.and_eq_true, decide_eq_true_eq, Bool.not_eq_true', decide_eq_false_iff_not] at h
  obtain ⟨⟨a, b, c⟩, d, e⟩ := h
  refine ⟨d.symm, e, digB_iff.mp b, ?_, by omega⟩
  intro z
  rw [z] at c
  cases c
theorem digitsVal_lt {l : List Nat} (h : AllDigits l) : digitsVal l < 10 ^ l.length := by
  have key : ∀ (l : List Nat) (a k : Nat), AllDigits l → a < 10 ^ k → l.foldl (fun acc c => acc * 10 + (c - 48)) a < 10 ^ (k + l.length) := by
    intro l
    induction l with
    | nil => intro a k _ ha; exact ha
    | cons c r ih =>
      intro a k hl ha
      have hc := hl.head
      rw [List.foldl_cons, List.length_cons]
      have e : k + (r.length + 1) = (k + 1) + r.length := by omega
      rw [e]
      refine ih _ _ hl.tail ?_
      rw [Nat.pow_succ]
      omega
  have := key l 0 0 h (by decide)
  rw [Nat.zero_add] at this
  exact this
/-! ### the lines of a text -/
def sHeaps : List Nat := [104, 101, 97, 112, 115]
def sStep : List Nat := [115, 116, 101, 112]
/-- the first number that cannot stand among heaps -/
def wrHs : List (List Nat) → Nat → Option Nat
  | [], _ => none
  | w :: r, i => if (decide (6 ≤ i) || !isNm (10 ^ 30) w) = true then some (i + 2) else wrHs r (i + 1)
def valsL (ws : List (List Nat)) : List Int := ws.tail.map fun w => ((digitsVal w : Nat) : Int)
/-- which word of a line of heaps cannot stand -/
def wrH (ws : List (List Nat)) : Option Nat :=
  if ws.headD [] ≠ sHeaps ∨ ws = [] then some 1
  else match wrHs ws.tail 0 with
    | some k => some k
    | none => if ws.length < 3 then some (ws.length + 1) else if (valsL ws).sum = 0 then some ws.length else none
def wrS (n : Nat) (ws : List (List Nat)) : Option Nat :=
  if ws.headD [] ≠ sStep ∨ ws = [] then some 1
  else if ws.length < 2 ∨ isNm (n - 1) (ws.getD 1 []) = false then some 2
  else if ws.length < 3 ∨ isNm (n - 1) (ws.getD 2 []) = false ∨ ws.getD 1 [] = ws.getD 2 [] then some 3
  else if 3 < ws.length then some 4 else none
inductive Rd where
  | bad (line word : Nat)
  | ok (ns : List Int) (ps : List (Nat × Nat))
def stepL (ws : List (List Nat)) : Nat × Nat := (digitsVal (ws.getD 1 []), digitsVal (ws.getD 2 []))
/-- the lines behind the first one: what is wrong, or the plan -/
def rdS (n : Nat) : List (List Nat) → Nat → List (Nat × Nat) → (Nat × Nat) ⊕ List (Nat × Nat)
  | [], _, acc => .inr acc
  | l :: r, i, acc => match (if 20000 ≤ i then some 1 else wrS n (wds l)) with
    | some w => .inl (i + 2, w)
    | none => rdS n r (i + 1) (acc ++ [stepL (wds l)])
def rdL (ls : List (List Nat)) : Rd := match wrH (wds (ls.headD [])) with
  | some w => .bad 1 w
  | none => match rdS (valsL (wds (ls.headD []))).length ls.tail 0 [] with
    | .inl (a, b) => .bad a b
    | .inr ps => .ok (valsL (wds (ls.headD []))) ps
/-! ### a good text -/
def rowH (ns : List Nat) : List (List Nat) := sHeaps :: ns.map numL
def rowS (p : Nat × Nat) : List (List Nat) := [sStep, numL p.1, numL p.2]
theorem wrHs_ok : ∀ (ns : List Nat) (i : Nat), (∀ n ∈ ns, n ≤ 10 ^ 30) → i + ns.length ≤ 6 → wrHs (ns.map numL) i = none
  | [], _, _, _ => rfl
  | n :: r, i, h, hi => by
    rw [List.length_cons] at hi
    show (if (decide (6 ≤ i) || !isNm (10 ^ 30) (numL n)) = true then some (i + 2) else wrHs (r.map numL) (i + 1)) = none
    rw [decide_eq_false (by omega), isNm_num (.inl rfl) (h n (List.mem_cons_self ..)), if_neg (by decide)]
    exact wrHs_ok r (i + 1) (fun m hm => h m (List.mem_cons_of_mem _ hm)) (by omega)
theorem valsL_row (ns : List Nat) : valsL (rowH ns) = ns.map (fun n : Nat => (n : Int)) := by
  unfold valsL rowH
  rw [List.tail_cons, List.map_map]
  refine List.map_congr_left fun n _ => ?_
  show ((digitsVal (numL n) : Nat) : Int) = _
  rw [numL_val]
theorem wrH_ok {ns : List Nat} (h : ∀ n ∈ ns, n ≤ 10 ^ 30) (h2 : 2 ≤ ns.length) (h6 : ns.length ≤ 6) (hs : (ns.map fun n : Nat => (n : Int)).sum ≠ 0) : wrH (rowH ns) = none := by
  unfold wrH
  have e1 : (rowH ns).headD [] = sHeaps := rfl
  have e2 : rowH ns ≠ [] := by simp [rowH]
  have e3 : (rowH ns).tail = ns.map numL := rfl
  have e4 : (rowH ns).length = ns.length + 1 := by simp [rowH]
  rw [if_neg (by rw [e1]; exact fun z => z.elim (fun q => q rfl) e2), e3, wrHs_ok ns 0 h (by omega)]
  show (if (rowH ns).length < 3 then _ else if (valsL (rowH ns)).sum = 0 then _ else none) = none
  rw [if_neg (by omega), valsL_row, if_neg hs]
theorem wrS_ok {n : Nat} {p : Nat × Nat} (hn : n ≤ 10) (h1 : p.1 < n) (h2 : p.2 < n) (h3 : p.1 ≠ p.2) : wrS n (rowS p) = none := by
  unfold wrS
  have e1 : (rowS p).headD [] = sStep := rfl
  have e2 : rowS p ≠ [] := by simp [rowS]
  have e3 : (rowS p).getD 1 [] = numL p.1 := rfl
  have e4 : (rowS p).getD 2 [] = numL p.2 := rfl
  have e5 : (rowS p).length = 3 := rfl
  rw [if_neg (by rw [e1]; exact fun z => z.elim (fun q => q rfl) e2), e3, e4, e5, isNm_num (.inr (by omega)) (by omega), isNm_num (.inr (by omega)) (by omega), if_neg (by simp), if_neg (by simp; exact fun z => h3 (numL_inj z)), if_neg (by decide)]
theorem stepL_row (p : Nat × Nat) : stepL (rowS p) = p := by
  unfold stepL
  have e3 : (rowS p).getD 1 [] = numL p.1 := rfl
  have e4 : (rowS p).getD 2 [] = numL p.2 := rfl
  rw [e3, e4, numL_val, numL_val]
/-- lines whose words are those of steps -/
theorem rdS_ok {n : Nat} (hn : n ≤ 10) : ∀ (ls : List (List Nat)) (ps : List (Nat × Nat)) (i : Nat) (acc : List (Nat × Nat)), ls.map wds = ps.map rowS → (∀ p ∈ ps, p.1 < n ∧ p.2 < n ∧ p.1 ≠ p.2) → i + ps.length ≤ 20000 → rdS n ls i acc = .inr (acc ++ ps)
  | [], [], i, acc, _, _, _ => by rw [List.append_nil]; rfl
  | [], p :: ps, _, _, e, _, _ => by simp at e
  | l :: ls, [], _, _, e, _, _ => by simp at e
  | l :: ls, p :: ps, i, acc, e, hp, hi => by
    rw [List.map_cons, List.map_cons] at e
    injection e with ea eb
    rw [List.length_cons] at hi
    obtain ⟨h1, h2, h3⟩ := hp p (List.mem_cons_self ..)
    show (match (if 20000 ≤ i then some 1 else wrS n (wds l)) with
      | some w => (Sum.inl (i + 2, w) : (Nat × Nat) ⊕ List (Nat × Nat))
      | none => rdS n ls (i + 1) (acc ++ [stepL (wds l)])) = _
    rw [if_neg (by omega), ea, wrS_ok hn h1 h2 h3, stepL_row]
    show rdS n ls (i + 1) (acc ++ [p]) = _
    rw [rdS_ok hn ls ps (i + 1) (acc ++ [p]) eb (fun q hq => hp q (List.mem_cons_of_mem _ hq)) (by omega), List.append_assoc]
    rfl
/-- a good text is read -/
theorem rdL_ok {ls : List (List Nat)} {ns : List Nat} {ps : List (Nat × Nat)} (e : ls.map wds = rowH ns :: ps.map rowS) (h : ∀ n ∈ ns, n ≤ 10 ^ 30) (h2 : 2 ≤ ns.length) (h6 : ns.length ≤ 6) (hs : (ns.map fun n : Nat => (n : Int)).sum ≠ 0)
    (hp : ∀ p ∈ ps, p.1 < ns.length ∧ p.2 < ns.length ∧ p.1 ≠ p.2) (hl : ps.length ≤ 20000) : rdL ls = .ok (ns.map (fun n : Nat => (n : Int))) ps := by
  cases ls with
  | nil => simp at e
  | cons l r =>
    rw [List.map_cons] at e
    injection e with ea eb
    unfold rdL
    have e1 : (l :: r).headD [] = l := rfl
    have e2 : (l :: r).tail = r := rfl
    rw [e1, e2, ea, wrH_ok h h2 h6 hs, valsL_row, List.length_map]
    show (match rdS ns.length r 0 [] with
      | .inl (a, b) => Rd.bad a b
      | .inr ps => Rd.ok _ ps) = _
    rw [rdS_ok (by omega) r ps 0 [] eb hp (by omega), List.nil_append]
end Hd
set_option maxHeartbeats 4000000
/-! Loose lines: spaces more than one, at the ends. -/
namespace Hd
open PySem PySem.Spec PyProof.Rows L2 TL NumText
theorem spl_mid {s : Nat} : ∀ (l acc r : List Nat), spl [s] 0 acc (l ++ s :: r) = spl [s] 0 acc l ++ spl [s] 0 [] r
  | [], acc, r => by
    rw [List.nil_append, spl_sep, spl_nil]
    rfl
  | c :: l, acc, r => by
    rw [List.cons_append]
    by_cases hc : c = s
    · subst hc
      rw [spl_sep, spl_sep, spl_mid l [] r, List.cons_append]
    · rw [spl_miss (pre_of_head _ _ hc), spl_miss (pre_of_head _ _ hc), spl_mid l _ r]
theorem wds_mid (l r : List Nat) : wds (l ++ 32 :: r) = wds l ++ wds r := by
  unfold wds
  rw [spl_mid, List.filter_append]
theorem wds_end (l : List Nat) (k : Nat) : wds (l ++ List.replicate k 32) = wds l := by
  cases k with
  | zero => rw [List.replicate_zero, List.append_nil]
  | succ k =>
    rw [List.replicate_succ, wds_mid]
    have := wds_sps k []
    rw [List.append_nil] at this
    rw [this, wds_nil, List.append_nil]
/-- a word more, with spaces behind it -/
theorem wds_more {l w : List Nat} {k : Nat} (hl : l = [] ∨ ∃ l', l = l' ++ [32]) (hw : w ≠ []) (hs : 32 ∉ w) : wds (l ++ w ++ List.replicate (k + 1) 32) = wds l ++ [w] := by
  rw [wds_end]
  rcases hl with rfl | ⟨l', rfl⟩
  · rw [List.nil_append, wds_last hw hs]
    rfl
  · rw [List.append_assoc, List.singleton_append, wds_mid, wds_last hw hs, wds_mid, wds_nil, List.append_nil]
/-- signs of a line -/
def Lc (c : Nat) : Prop := c = 32 ∨ (c ≠ 10 ∧ Unicode.isSpace c = false)
theorem rstrip_tl {x : Str} (h : ∀ c ∈ tl x, Lc c) : ∃ k, tl x = tl (Txt.rstrip x) ++ List.replicate k 32 := by
  have e : tl (Txt.rstrip x) = (tl x).take ((tl x).length - ((tl x).reverse.takeWhile Unicode.isSpace).length) := by
    unfold Txt.rstrip
    rw [PySem.W.stripBy_eq]
    show tl (Builtin.Str.strSub x 0 (x.length - (((x.cps.toList.drop 0).reverse.takeWhile Unicode.isSpace).length))) = _
    rw [tl_strSub, List.drop_zero, Nat.sub_zero, len_tl]
  have hsp : ∀ (l : List Nat), (∀ c ∈ l, Lc c) → l.takeWhile Unicode.isSpace = List.replicate (l.takeWhile Unicode.isSpace).length 32 := by
    intro l
    induction l with
    | nil => intro _; rfl
    | cons c r ih =>
      intro hl
      by_cases hc : Unicode.isSpace c = true
      · rw [List.takeWhile_cons_of_pos hc, List.length_cons, List.replicate_succ, ← ih fun d hd => hl d (List.mem_cons_of_mem _ hd)]
        rcases hl c (List.mem_cons_self ..) with z | z
        · rw [z]
        · rw [hc] at z
          cases z.2
      · rw [List.takeWhile_cons_of_neg hc]
        rfl
  refine ⟨((tl x).reverse.takeWhile Unicode.isSpace).length, ?_⟩
  rw [e]
  have h1 := hsp (tl x).reverse fun c hc => h c (List.mem_reverse.mp hc)
  have h2 := List.takeWhile_append_dropWhile (p := Unicode.isSpace) (l := (tl x).reverse)
  have h3 := congrArg List.reverse h2
  rw [List.reverse_append, List.reverse_reverse] at h3
  have key : ∀ (L T D : List Nat), D.reverse ++ T.reverse = L → D.reverse = L.take (L.length - T.length) := fun L T D e => by
    subst e
    have el : (D.reverse ++ T.reverse).length - T.length = D.reverse.length := by
      rw [List.length_append, List.length_reverse, List.length_reverse]
      omega
    rw [el, List.take_left]
  have h5 := key _ _ _ h3
  rw [← h5, ← List.reverse_replicate, ← h1]
  exact h3.symm
theorem Lc_num {n c : Nat} (h : c ∈ numL n) : Lc c := by
  have r := numL_digits n c h
  have : ∀ c, 48 ≤ c → c ≤ 57 → Unicode.isSpace c = false := by
    intro c h1 h2
    have : c = 48 ∨ c = 49 ∨ c = 50 ∨ c = 51 ∨ c = 52 ∨ c = 53 ∨ c = 54 ∨ c = 55 ∨ c = 56 ∨ c = 57 := by omega
    rcases this with e | e | e | e | e | e | e | e | e | e <;> subst e <;> decide +kernel
  exact .inr ⟨by omega, this c r.1 r.2⟩
theorem Lc_letters : ∀ c ∈ sHeaps ++ sStep, Unicode.isSpace c = false ∧ c ≠ 10 := by decide +kernel
end Hd
set_option maxHeartbeats 4000000
/-! Words and numbers of a text. -/
namespace Hd
open PySem PySem.Spec PyProof.Rows L2 TL NumText
theorem pe_gstr {X : Cx} {x : Str} {v : Str} {pos : Pos} (hg : Gl X x) (hm : ∃ t, X.mg x = some (.str v t)) (hd : (x == ("__debug__" : Str)) = false := by decide) : PE X (.Name x pos) (tC (.str v)) := by
  obtain ⟨t, hm⟩ := hm
  exact pe_glob hg hm ⟨t, rfl⟩ hd
structure TxtT (mg : Str → Option Value) : Prop extends Tp mg where
  c_HEAPS_WORD : ∃ t, mg "HEAPS_WORD" = some (.str "heaps" t)
  c_STEP_WORD : ∃ t, mg "STEP_WORD" = some (.str "step" t)
theorem tl_heaps : tl ("heaps" : Str) = sHeaps := by rw [tl_ofString]; rfl
theorem tl_step : tl ("step" : Str) = sStep := by rw [tl_ofString]; rfl
theorem tl_sp : tl (" " : Str) = [32] := by rw [tl_ofString]; rfl
theorem tl_nl : tl ("\n" : Str) = [10] := by rw [tl_ofString]; rfl
theorem tl_em : tl ("" : Str) = [] := by rw [tl_ofString]; rfl
theorem dec_str (a b : Str) : decide (V.str a = V.str b) = decide (tl a = tl b) := by
  by_cases z : tl a = tl b
  · have := ext_tl z
    subst this
    rw [decide_eq_true rfl, decide_eq_true rfl]
  · rw [decide_eq_false z, decide_eq_false fun q => z (by rw [V.str.inj q])]
/-- a list of words at l -/
structure WdL (K : PySem.W.Frag) (H : Hp) (l : Addr) (ws : List Str) : Prop where
  ls : H l = some (.lst (ws.map V.str))
theorem log_small {n : Int} (h0 : 0 ≤ n) (h : n < 10 ^ 31) : n.natAbs.log2 < 1920 := by
  by_cases z : n.natAbs = 0
  · rw [z]
    decide
  refine (Nat.log2_lt z).mpr ?_
  have : n.natAbs < 10 ^ 31 := by omega
  exact Nat.lt_of_lt_of_le this (by decide)
theorem num_small {n : Nat} (h : n ≤ 10 ^ 30) : ((n : Nat) : Int).natAbs.log2 < 1920 := log_small (by omega) (by have : n < 10 ^ 31 := Nat.lt_of_le_of_lt h (by decide); omega)
/-! ### the promises -/
def spIsNumber : Sp := fun vs H Q _ => ∃ (w : Str) (g : Nat), vs = [.str w, .int (g : Int)] ∧ g ≤ 10 ^ 30 ∧ w.length ≤ sizeLine ∧ Q (.bl (isNm g (tl w))) H
def spLine (K : PySem.W.Frag) : Sp := fun vs H Q _ => ∃ (w : Str) (t : Addr) (ns : List Nat), vs = [.str w, .ref t] ∧ SqT K H t (ns.map fun n : Nat => V.int (n : Int)) ∧ (∀ n ∈ ns, n ≤ 10 ^ 30) ∧ ns.length ≤ 6 ∧ w.length ≤ 10 ∧ ∀ x H', Same H H' → tl x = joinL [32] (tl w :: ns.map numL) → Q (.str x) H'
def spWords (K : PySem.W.Frag) : Sp := fun vs H Q _ => ∃ x : Str, vs = [.str x] ∧ x.length + 2 ≤ sizeLine ∧ ∀ (p : Addr) (ws : List Str) (H' : Hp), Same H H' → H p = none → H' p = some (.lst (ws.map V.str)) → ws.map tl = wds (tl x) → Q (.ref p) H'
/-- words that are numbers, but the first -/
def Nums (ws : List Str) : Prop := ∀ w ∈ ws.tail, AllDigits (tl w) ∧ tl w ≠ [] ∧ w.length ≤ 40
def spNums (K : PySem.W.Frag) : Sp := fun vs H Q _ => ∃ (l : Addr) (ws : List Str), vs = [.ref l] ∧ SqL K H l (ws.map V.str) ∧ Nums ws ∧ ws.length ≤ sizeLine ∧ ∀ (p : Addr) (H' : Hp), Same H H' → H p = none → H' p = some (.tup ((valsL (ws.map tl)).map V.int)) → Q (.ref p) H'
def oV : Option Nat → V
  | none => .non
  | some k => .int (k : Int)
def spWrongH (K : PySem.W.Frag) : Sp := fun vs H Q _ => ∃ (l : Addr) (ws : List Str), vs = [.ref l] ∧ SqL K H l (ws.map V.str) ∧ ws.length < sizeLine ∧ (∀ w ∈ ws, w.length ≤ sizeLine) ∧ ∀ H', Same H H' → Q (oV (wrH (ws.map tl))) H'
def spWrongS (K : PySem.W.Frag) : Sp := fun vs H Q _ => ∃ (n : Nat) (l : Addr) (ws : List Str), vs = [.int (n : Int), .ref l] ∧ 1 ≤ n ∧ n ≤ 6 ∧ SqL K H l (ws.map V.str) ∧ (∀ w ∈ ws, w.length ≤ sizeLine) ∧ Q (oV (wrS n (ws.map tl))) H
theorem isDig_ascii : ∀ c : Nat, c < 128 → Unicode.isDigit c = (decide (48 ≤ c) && decide (c ≤ 57)) := by decide +kernel
theorem dig_ascii {w : Str} (h : Txt.isascii w = true) : Txt.isdigit w = (digB (tl w) && !(tl w).isEmpty) := by
  unfold Txt.isascii at h
  unfold Txt.isdigit digB
  rw [Array.all_eq_true] at h
  have e1 : decide (w.length > 0) = !(tl w).isEmpty := by
    have := len_tl w
    cases e : tl w with
    | nil =>
      rw [e] at this
      rw [decide_eq_false (by rw [this]; simp)]
      rfl
    | cons a r =>
      rw [e] at this
      rw [decide_eq_true (by rw [this]; simp)]
      rfl
  have e2 : w.cps.all Unicode.isDigit = (tl w).all fun c => decide (48 ≤ c) && decide (c ≤ 57) := by
    rw [← Array.all_toList]
    have : ∀ c ∈ w.cps.toList, c < 128 := fun c hc => by
      obtain ⟨i, hi, e⟩ := List.mem_iff_getElem.mp hc
      have := h i (by simpa using hi)
      have e' : w.cps[i]'(by simpa using hi) = c := by simpa using e
      rw [e'] at this
      exact of_decide_eq_true this
    show w.cps.toList.all _ = w.cps.toList.all _
    generalize w.cps.toList = l at this
    induction l with
    | nil => rfl
    | cons a r ih =>
      rw [List.all_cons, List.all_cons, isDig_ascii a (this a (List.mem_cons_self ..)), ih fun c hc => this c (List.mem_cons_of_mem _ hc)]
  rw [e1, e2, Bool.and_comm]
theorem ascii_dig {w : Str} (h : AllDigits (tl w)) : Txt.isascii w = true := by
  unfold Txt.isascii
  rw [Array.all_eq_true]
  intro i hi
  have := h w.cps[i] (by rw [← Array.getElem_toList hi]; exact List.getElem_mem _)
  exact decide_eq_true (by omega)
section
variable {P : Program} {w : World} {K : PySem.W.Frag} {mg : Str → Option Value} {base : Heap}
abbrev s_is_number : Stmt := top 26
theorem sc_is_number : FnScope ["word", "greatest"] ["word", "greatest"] (defScope s_is_number) := ⟨rfl, rfl, rfl, by decide +kernel, rfl, by decide +kernel, by decide +kernel⟩
theorem ok_is_number {f : Addr} {fd : FuncData} (F : Fun K "is_number" "is_number" s_is_number f fd) (T : TxtT mg) : FnOk P w K mg base CX0 1 f fd ["word", "greatest"] spIsNumber := by
  refine F.ok sc_is_number (fun vs H Q E h => ?_) (fun cdv A outer s H vs Q E hr h => ?_)
  · obtain ⟨w, g, rfl, _⟩ := h
    rfl
  · obtain ⟨w, g, rfl, hg, hw, k⟩ := h
    refine ⟨_, (pss_cons (ps_if (PW.pt (pw_or (pt_cmpR op_gt (pe_callB call_len_str (by rfl) T.len PySem.boot_len (pa_cons (pv 0) pa_nil)) (pe_callB call_len_str (by rfl) T.len PySem.boot_len (pa_cons (pe_callTy call_str_int (by rfl) T.str (by decide +kernel) (pa_cons (pv 1) pa_nil)) pa_nil)) (nomark _)) (pw_or (pt_not (pt_val (pe_bm0 PySem.F.plainAttrs_str PySem.F.slot_str_isascii PySem.F.type_str_isascii mt_isascii (pv 0)))) (pw_or1 (pt_not (pt_val (pe_bm0 PySem.F.plainAttrs_str PySem.F.slot_str_isdigit PySem.F.type_str_isdigit mt_isdigit (pv 0)))))))) (pss_one (ps_ret pe_bl)) pss_nil)
      (pss_one (ps_ret (pe_and (pe_cmpR op_eq (pe_callTy call_str_int (by rfl) T.str (by decide +kernel) (pa_cons (pe_callTy call_int_str (by rfl) T.int (by decide +kernel) (pa_cons (pv 0) pa_nil)) pa_nil)) (pv 0) (nomark _)) (pe_one (pe_cmpR op_le (pe_callTy call_int_str (by rfl) T.int (by decide +kernel) (pa_cons (pv 0) pa_nil)) (pv 1) (nomark _))))))), ?_⟩
    have hgl : (numL g).length ≤ 31 := numL_len (by decide) (Nat.lt_of_le_of_lt hg (by decide))
    have eg := tl_num g
    have lg := len_tl (Str.ofString (toString ((g : Nat) : Int)))
    rw [eg] at lg
    refine ⟨_, rfl, _, rfl, hw, _, rfl, _, rfl, num_small hg, _, rfl, by rw [lg, sizeLine_eq]; omega, _, _, rfl, rfl, _, rfl, ?_⟩
    rw [lg, len_tl w]
    by_cases hc : (numL g).length < (tl w).length
    · rw [decide_eq_true (show ((numL g).length : Int) < ((tl w).length : Int) by omega)]
      have : isNm g (tl w) = false := by
        unfold isNm
        rw [decide_eq_true hc]
        rfl
      rw [this] at k
      exact iteT k
    · rw [decide_eq_false (show ¬ ((numL g).length : Int) < ((tl w).length : Int) by omega)]
      refine iteF ⟨_, rfl, rfl, _, rfl, rfl, trivial, _, rfl, ?_⟩
      cases ha : Txt.isascii w with
      | false =>
        have : isNm g (tl w) = false := by
          cases z : isNm g (tl w) with
          | false => rfl
          | true =>
            have := ascii_dig (isNm_eq z).2.2.1
            rw [ha] at this
            cases this
        rw [this] at k
        exact iteT k
      | true =>
        refine iteF ⟨_, rfl, rfl, _, rfl, rfl, trivial, _, rfl, ?_⟩
        have hd := dig_ascii ha
        cases hz : (digB (tl w) && !(tl w).isEmpty) with
        | false =>
          rw [hd, hz]
          have : isNm g (tl w) = false := by
            unfold isNm
            rw [hz, Bool.and_false, Bool.false_and]
          rw [this] at k
          exact iteT k
        | true =>
          rw [hd, hz]
          rw [Bool.and_eq_true] at hz
          have had := digB_iff.mp hz.1
          have hne : tl w ≠ [] := fun z => by
            rw [z] at hz
            cases hz.2
          have hwl : w.length ≤ 31 := by rw [len_tl]; omega
          have hv : intText? w = some ((digitsVal (tl w) : Nat) : Int) := intText_digits had hne (by omega)
          have hlt : digitsVal (tl w) < 10 ^ 31 := Nat.lt_of_lt_of_le (digitsVal_lt had) (Nat.pow_le_pow_right (by decide) (by omega))
          refine iteF ⟨_, rfl, _, _, rfl, hv, by omega, _, rfl, log_small (by omega) (by omega), _, rfl, rfl, ?_⟩
          rw [dec_str, tl_num]
          have em : isNm g (tl w) = (decide (numL (digitsVal (tl w)) = tl w) && decide (digitsVal (tl w) ≤ g)) := by
            unfold isNm
            rw [decide_eq_false hc, hz.1, hz.2]
            rfl
          rw [em] at k
          cases hq : decide (numL (digitsVal (tl w)) = tl w) with
          | false =>
            rw [hq] at k
            exact ⟨_, rfl, iteF k⟩
          | true =>
            rw [hq] at k
            refine ⟨_, rfl, iteT ⟨_, rfl, _, _, rfl, hv, by omega, _, rfl, _, _, rfl, rfl, ?_⟩⟩
            have : decide (((digitsVal (tl w) : Nat) : Int) ≤ (g : Int)) = decide (digitsVal (tl w) ≤ g) := by
              by_cases z : digitsVal (tl w) ≤ g
              · rw [decide_eq_true z, decide_eq_true (by omega)]
              · rw [decide_eq_false z, decide_eq_false (by omega)]
            show Q (V.bl (decide (((digitsVal (tl w) : Nat) : Int) ≤ (g : Int)))) H
            rw [this]
            exact k
abbrev s_line_of : Stmt := top 20
theorem sc_line_of : FnScope ["word", "numbers", "number"] ["word", "numbers"] (defScope s_line_of) := ⟨rfl, rfl, rfl, by decide +kernel, rfl, by decide +kernel, by decide +kernel⟩
theorem ok_line_of {f : Addr} {fd : FuncData} (F : Fun K "line_of" "line_of" s_line_of f fd) (T : TxtT mg) : FnOk P w K mg base CX0 1 f fd ["word", "numbers"] (spLine K) := by
  refine F.ok sc_line_of (fun vs H Q E h => ?_) (fun cdv A outer s H vs Q E hr h => ?_)
  · obtain ⟨w, t, ns, rfl, _⟩ := h
    rfl
  · obtain ⟨w, t, ns, rfl, hS, hn, h6, hw, k⟩ := h
    refine ⟨_, (pss_one (ps_ret (pe_join pe_str (pe_op op_cat (pe_lst (pa_cons (pv 0) pa_nil)) (pe_lc (own := [("number", 2)]) (g := gName 2) (by rfl) sc_line_of.nd (pi_tup (pv 1)) (blkOk_by (own := [("number", 2)]) (N := ["word", "numbers", "number"]) (sc := defScope s_line_of) (by decide +kernel)) (fun _ _ _ _ _ => pg_name (i := 2) sc_line_of.nd rfl (Or.inl rfl)) (fun _ _ _ _ _ => pts_nil) (fun _ _ _ _ _ => (pe_callTy call_str_int (by rfl) T.str (by decide +kernel) (pa_cons (pv 2) pa_nil)))))))), ?_⟩
    refine ⟨⟨_, rfl⟩, _, rfl, by show 1 ≤ sizeLine; decide, fun l hl => ?_⟩
    have s1 : Same H (upd H l (.lst [.str w])) := Same.new hl
    have S1 := Same.tup s1 hS
    refine ⟨_, rfl, t, rfl, ⟨_, S1⟩, fun D hD => lc_tup (K := K) (a := t) (xs := ns.map fun n : Nat => V.int (n : Int)) (fun i H2 => H2 D = some (.lst (((ns.take i).map fun n : Nat => (Str.ofString (toString ((n : Nat) : Int)))).map V.str)) ∧ Same (upd H l (.lst [.str w])) H2) ⟨upd_same, Same.new hD⟩ (fun i H2 _ q => Same.tup q.2 S1) ?_ ?_⟩
    · rintro i x H2 hi ⟨hL, s2⟩
      rw [List.getElem?_map] at hi
      obtain ⟨n, hn', rfl⟩ := Option.map_eq_some_iff.mp hi
      refine ⟨rfl, _, rfl, _, rfl, num_small (hn n (List.mem_of_getElem? hn')), _, hL, ?_, ?_, same_upd s2 hD⟩
      · rw [List.length_map, List.length_map, List.length_take, sizeLine_eq]
        omega
      · rw [upd_same, map_take hn', List.map_append]
        rfl
    · rintro H2 ⟨hL, s2⟩
      rw [List.length_map, List.take_length] at hL
      have hl2 := s2 _ _ (upd_same (H := H) (a := l) (o := .lst [.str w]))
      refine ⟨l, D, _, _, rfl, rfl, hl2, hL, ?_, fun p hp => ?_⟩
      · rw [List.length_map, List.length_map, sizeLine_eq]
        show 1 + ns.length ≤ _
        omega
      · refine ⟨_, p, (w :: ns.map fun n : Nat => (Str.ofString (toString ((n : Nat) : Int)))), rfl, rfl, .inl (SqL.of (by rw [upd_same]; rfl)), ?_, ?_⟩
        · have hs : ∀ l : List Nat, (∀ n ∈ l, n ≤ 10 ^ 30) → ((l.map fun n : Nat => (Str.ofString (toString ((n : Nat) : Int)))).map (·.length)).sum ≤ 31 * l.length := by
            intro l
            induction l with
            | nil => intro _; exact Nat.le_refl _
            | cons a r ih =>
              intro hl'
              have h1 := ih fun n hn => hl' n (List.mem_cons_of_mem _ hn)
              have h2 : (Str.ofString (toString ((a : Nat) : Int))).length ≤ 31 := by
                rw [len_tl, tl_num]
                exact numL_len (by decide) (Nat.lt_of_le_of_lt (hl' a (List.mem_cons_self ..)) (by decide))
              rw [List.map_cons, List.map_cons, List.sum_cons, List.length_cons]
              omega
          have := hs ns hn
          have e1 : (" " : Str).length = 1 := by rw [len_tl, tl_sp]; rfl
          rw [List.map_cons, List.sum_cons, List.length_cons, List.length_map, e1]
          omega
        · refine k _ _ ((s1.trans s2).trans (Same.new hp)) ?_
          rw [join_eq, tl_join, tl_sp, List.map_cons, List.map_map]
          congr 2
          refine List.map_congr_left fun n _ => ?_
          exact tl_num n
abbrev s_words_of : Stmt := top 21
theorem sc_words_of : FnScope ["line", "word"] ["line"] (defScope s_words_of) := ⟨rfl, rfl, rfl, by decide +kernel, rfl, by decide +kernel, by decide +kernel⟩
theorem ok_words_of {f : Addr} {fd : FuncData} (F : Fun K "words_of" "words_of" s_words_of f fd) (T : TxtT mg) : FnOk P w K mg base CX0 1 f fd ["line"] (spWords K) := by
  refine F.ok sc_words_of (fun vs H Q E h => ?_) (fun cdv A outer s H vs Q E hr h => ?_)
  · obtain ⟨x, rfl, _⟩ := h
    rfl
  · obtain ⟨x, rfl, hx, k⟩ := h
    refine ⟨_, (pss_one (ps_ret (pe_lc (own := [("word", 1)]) (g := gName 1) (by rfl) sc_words_of.nd (pi_list (pe_split (pv 0) pe_str)) (blkOk_by (own := [("word", 1)]) (N := ["line", "word"]) (sc := defScope s_words_of) (by decide +kernel)) (fun _ _ _ _ _ => pg_name (i := 1) sc_words_of.nd rfl (Or.inl rfl)) (fun _ _ _ _ _ => pts_one (pt_cmpR op_ne (pv 1) pe_str (nomark _))) (fun _ _ _ _ _ => (pv 1))))), ?_⟩
    have hsp : ((" " : Str).length == 0) = false := by rw [len_tl, tl_sp]; rfl
    refine ⟨_, rfl, ⟨_, rfl⟩, _, _, rfl, rfl, hsp, hx, fun p hp => ?_⟩
    have es := split_spl x (" " : Str) (by rw [tl_sp]; simp) (kind_ok (by decide +kernel))
    rw [tl_sp] at es
    have hpl : (upd H p (.lst ((Txt.split x (" " : Str)).map V.str))) p = some (.lst ((Txt.split x (" " : Str)).map V.str)) := upd_same
    have s1 : Same H (upd H p (.lst ((Txt.split x (" " : Str)).map V.str))) := Same.new hp
    generalize Txt.split x (" " : Str) = ws at es hpl s1 ⊢
    generalize upd H p (.lst (ws.map V.str)) = H1 at hpl s1 ⊢
    refine ⟨p, rfl, ⟨_, SqL.of hpl⟩, fun D hD => lc_list (K := K) (a := p) (xs := ws.map V.str) (fun i H2 => H2 D = some (.lst (((ws.take i).filter fun w => !(tl w).isEmpty).map V.str)) ∧ Same H1 H2) ⟨upd_same, Same.new hD⟩ (fun i H2 _ q => SqL.of (q.2 _ _ hpl)) ?_ ?_⟩
    · rintro i y H2 hi ⟨hL, s2⟩
      rw [List.getElem?_map] at hi
      obtain ⟨w, hw, rfl⟩ := Option.map_eq_some_iff.mp hi
      refine ⟨rfl, _, rfl, rfl, _, rfl, ?_⟩
      rw [dec_str, tl_em]
      have nx := filter_take (p := fun w : Str => !(tl w).isEmpty) hw
      by_cases h0 : tl w = []
      · rw [decide_eq_true h0]
        refine iteF ⟨?_, s2⟩
        rw [nx, if_neg (by rw [h0]; decide), List.append_nil]
        exact hL
      · rw [decide_eq_false h0]
        refine iteT ⟨_, rfl, _, hL, ?_, ?_, same_upd s2 hD⟩
        · have hil : i < ws.length := (List.getElem?_eq_some_iff.mp hw).1
          have h1 := List.length_filter_le (fun w : Str => !(tl w).isEmpty) (ws.take i)
          rw [List.length_take] at h1
          have hwl : ws.length ≤ x.length + 1 := by
            have e := congrArg List.length es
            rw [List.length_map] at e
            rw [e, len_tl x]
            have key : ∀ (l acc : List Nat), (spl [32] 0 acc l).length ≤ l.length + 1 := by
              intro l
              induction l with
              | nil => intro acc; rw [spl_nil]; simp
              | cons c r ih =>
                intro acc
                by_cases hc : c = 32
                · subst hc
                  rw [spl_sep, List.length_cons, List.length_cons]
                  have := ih []
                  omega
                · rw [spl_miss (pre_of_head _ _ hc), List.length_cons]
                  have := ih (acc ++ [c])
                  omega
            exact key _ _
          rw [List.length_map]
          omega
        · have hne : (!(tl w).isEmpty) = true := by
            cases e : tl w with
            | nil => exact absurd e h0
            | cons _ _ => rfl
          rw [upd_same, nx, if_pos hne, List.map_append]
          rfl
    · rintro H2 ⟨hL, s2⟩
      rw [List.length_map, List.take_length] at hL
      refine k D _ H2 (s1.trans s2) (s1.free hD) hL ?_
      unfold wds
      rw [← es, List.filter_map]
      rfl
end
end Hd
set_option maxHeartbeats 4000000
/-! What cannot stand in a line. -/
namespace Hd
open PySem PySem.Spec PyProof.Rows L2 TL NumText
theorem cut_tail (xs : List V) : cutV xs (some 1) none = xs.tail := by
  unfold cutV
  rw [HT.sIx_none, show (some (1 : Int)) = some ((1 : Nat) : Int) from rfl, HT.sIx_nat]
  cases xs with
  | nil => rfl
  | cons x r =>
    rw [List.length_cons, Nat.min_eq_left (by omega), List.drop_one, List.tail_cons]
    exact List.take_of_length_le (by omega)
theorem str_at {ws : List Str} {i : Nat} {x : V} (h : (ws.map V.str)[i]? = some x) : ∃ w, ws[i]? = some w ∧ x = .str w := by
  rw [List.getElem?_map] at h
  obtain ⟨w, h1, h2⟩ := Option.map_eq_some_iff.mp h
  exact ⟨w, h1, h2.symm⟩
/-- the numbers among the first words -/
theorem wrHs_step {ws : List (List Nat)} {i : Nat} {w : List Nat} {j : Nat} (h : ws[i]? = some w) : wrHs (ws.drop i) (i + j) = (if (decide (6 ≤ i + j) || !isNm (10 ^ 30) w) = true then some (i + j + 2) else wrHs (ws.drop (i + 1)) (i + j + 1)) := by
  obtain ⟨hi, e⟩ := List.getElem?_eq_some_iff.mp h
  rw [List.drop_eq_getElem_cons hi, e]
  rfl
/-- no word wrong: all are numbers -/
theorem wrHs_none : ∀ (ws : List (List Nat)) (i : Nat), wrHs ws i = none → (∀ w ∈ ws, isNm (10 ^ 30) w = true) ∧ i + ws.length ≤ max i 6
  | [], i, _ => ⟨fun w hw => (nomatch hw), by simp; omega⟩
  | w :: r, i, h => by
    have h' : (if (decide (6 ≤ i) || !isNm (10 ^ 30) w) = true then some (i + 2) else wrHs r (i + 1)) = none := h
    by_cases c : (decide (6 ≤ i) || !isNm (10 ^ 30) w) = true
    · rw [if_pos c] at h'
      cases h'
    · rw [if_neg c] at h'
      obtain ⟨a, b⟩ := wrHs_none r (i + 1) h'
      rw [Bool.or_eq_true, decide_eq_true_eq, Bool.not_eq_true'] at c
      have c1 : ¬ 6 ≤ i := fun z => c (.inl z)
      have c2 : isNm (10 ^ 30) w = true := by
        cases z : isNm (10 ^ 30) w with
        | true => rfl
        | false => exact absurd (.inr z) c
      refine ⟨fun v hv => ?_, ?_⟩
      · rcases List.mem_cons.mp hv with e | hv
        · rw [e]
          exact c2
        · exact a v hv
      · rw [List.length_cons]
        omega
theorem nums_of {ws : List Str} (h : ∀ w ∈ (ws.map tl).tail, isNm (10 ^ 30) w = true) : Nums ws := fun w hw => by
  have hm : tl w ∈ (ws.map tl).tail := by
    rw [← List.map_tail]
    exact List.mem_map.mpr ⟨w, hw, rfl⟩
  obtain ⟨_, _, a, b, c⟩ := isNm_eq (h _ hm)
  refine ⟨a, b, ?_⟩
  rw [len_big] at c
  rw [len_tl]
  omega
section
variable {P : Program} {w : World} {K : PySem.W.Frag} {mg : Str → Option Value} {base : Heap}
abbrev s_numbers_behind : Stmt := top 22
theorem sc_numbers_behind : FnScope ["words", "word"] ["words"] (defScope s_numbers_behind) := ⟨rfl, rfl, rfl, by decide +kernel, rfl, by decide +kernel, by decide +kernel⟩
theorem ok_numbers_behind {f : Addr} {fd : FuncData} (F : Fun K "numbers_behind" "numbers_behind" s_numbers_behind f fd) (T : TxtT mg) : FnOk P w K mg base CX0 1 f fd ["words"] (spNums K) := by
  refine F.ok sc_numbers_behind (fun vs H Q E h => ?_) (fun cdv A outer s H vs Q E hr h => ?_)
  · obtain ⟨l, ws, rfl, _⟩ := h
    rfl
  · obtain ⟨l, ws, rfl, hS, hN, hl, k⟩ := h
    refine ⟨_, (pss_one (ps_ret (pe_callTy call_tuple_of (by rfl) T.tuple (by decide +kernel) (pa_cons (pe_lc (own := [("word", 1)]) (g := gName 1) (by rfl) sc_numbers_behind.nd (pi_list (pe_slice sl_list (pv 0) (po_some pe_int) po_none)) (blkOk_by (own := [("word", 1)]) (N := ["words", "word"]) (sc := defScope s_numbers_behind) (by decide +kernel)) (fun _ _ _ _ _ => pg_name (i := 1) sc_numbers_behind.nd rfl (Or.inl rfl)) (fun _ _ _ _ _ => pts_nil) (fun _ _ _ _ _ => (pe_callTy call_int_str (by rfl) T.int (by decide +kernel) (pa_cons (pv 1) pa_nil)))) pa_nil)))), ?_⟩
    refine ⟨_, rfl, _, rfl, l, _, rfl, hS, fun p hp => ?_⟩
    rw [cut_tail, ← List.map_tail]
    have s1 : Same H (upd H p (.lst (ws.tail.map V.str))) := Same.new hp
    have hp1 : (upd H p (.lst (ws.tail.map V.str))) p = some (.lst (ws.tail.map V.str)) := upd_same
    have hN' : ∀ w ∈ ws.tail, AllDigits (tl w) ∧ tl w ≠ [] ∧ w.length ≤ 40 := hN
    have htl : ws.tail.length ≤ sizeLine := by rw [List.length_tail]; omega
    have ev : valsL (ws.map tl) = ws.tail.map fun w => ((digitsVal (tl w) : Nat) : Int) := by
      unfold valsL
      rw [← List.map_tail, List.map_map]
      rfl
    rw [ev] at k
    generalize ws.tail = us at hN' htl hp1 s1 k ⊢
    generalize upd H p (.lst (us.map V.str)) = H1 at hp1 s1 ⊢
    refine ⟨p, rfl, ⟨_, SqL.of hp1⟩, fun D hD => lc_list (K := K) (a := p) (xs := us.map V.str) (fun i H2 => H2 D = some (.lst (((us.take i).map fun w => ((digitsVal (tl w) : Nat) : Int)).map V.int)) ∧ Same H1 H2) ⟨upd_same, Same.new hD⟩ (fun i H2 _ q => SqL.of (q.2 _ _ hp1)) ?_ ?_⟩
    · rintro i y H2 hi ⟨hL, s2⟩
      obtain ⟨w, hw, rfl⟩ := str_at hi
      obtain ⟨h1, h2, h3⟩ := hN' w (List.mem_of_getElem? hw)
      refine ⟨rfl, _, rfl, _, _, rfl, intText_digits h1 h2 (by omega), by omega, _, hL, ?_, ?_, same_upd s2 hD⟩
      · have hil : i < us.length := (List.getElem?_eq_some_iff.mp hw).1
        rw [List.length_map, List.length_map, List.length_take]
        omega
      · rw [upd_same, map_take hw, List.map_append]
        rfl
    · rintro H2 ⟨hL, s2⟩
      rw [List.length_map, List.take_length] at hL
      refine ⟨D, _, rfl, .inl ⟨SqL.of hL, fun q hq => k q _ ((s1.trans s2).trans (Same.new hq)) ((s1.trans s2).free hq) upd_same⟩⟩
abbrev s_wrong_in_heaps : Stmt := top 24
theorem sc_wrong_in_heaps : FnScope ["words", "index", "word"] ["words"] (defScope s_wrong_in_heaps) := ⟨rfl, rfl, rfl, by decide +kernel, rfl, by decide +kernel, by decide +kernel⟩
theorem ok_wrong_in_heaps {f : Addr} {fd : FuncData} (F : Fun K "wrong_in_heaps" "wrong_in_heaps" s_wrong_in_heaps f fd) (T : TxtT mg) (C_is_number : Cal P w K mg base CX0 1 "is_number" ["word", "greatest"] spIsNumber) (C_numbers_behind : Cal P w K mg base CX0 1 "numbers_behind" ["words"] (spNums K)) : FnOk P w K mg base CX0 2 f fd ["words"] (spWrongH K) := by
  refine F.ok sc_wrong_in_heaps (fun vs H Q E h => ?_) (fun cdv A outer s H vs Q E hr h => ?_)
  · obtain ⟨l, ws, rfl, _⟩ := h
    rfl
  · obtain ⟨l, ws, rfl, hS, hl, hwl, k⟩ := h
    refine ⟨_, (pss_cons (ps_if (PW.pt (pw_or (pt_cmpR op_eq (pe_callB call_len_seq (by rfl) T.len PySem.boot_len (pa_cons (pv 0) pa_nil)) pe_int (nomark _)) (pw_or1 (pt_cmpR op_ne (pe_ix ix_list (pv 0) pe_int (fun _ _ => rfl)) (pe_gstr rfl T.c_HEAPS_WORD) (nomark _))))) (pss_one (ps_ret pe_int)) pss_nil)
      (pss_cons (ps_for PassesOwn.never rfl (pi_enum (by rfl) T.enumerate (pa_cons (pe_slice sl_list (pv 0) (po_some pe_int) po_none) pa_nil)) (pg_tup rfl (pgs_cons (pg_name (i := 1) sc_wrong_in_heaps.nd rfl (Or.inl rfl)) (pgs_cons (pg_name (i := 2) sc_wrong_in_heaps.nd rfl (Or.inl rfl)) pgs_nil)))
      (pss_one (ps_if (PW.pt (pw_or (pt_cmpR op_ge (pv 1) (pe_gint rfl T.c_MOST_HEAPS) (nomark _)) (pw_or1 (pt_not (pt_val (pe_cal C_is_number hr rfl pass0 (pa_cons (pv 2) (pa_cons (pe_gint rfl T.c_GREATEST) pa_nil)))))))) (pss_one (ps_ret (pe_op op_add (pv 1) pe_int))) pss_nil)))
      (pss_cons (ps_if (pt_cmpR op_lt (pe_op op_sub (pe_callB call_len_seq (by rfl) T.len PySem.boot_len (pa_cons (pv 0) pa_nil)) pe_int) (pe_gint rfl T.c_FEWEST_HEAPS) (nomark _)) (pss_one (ps_ret (pe_op op_add (pe_callB call_len_seq (by rfl) T.len PySem.boot_len (pa_cons (pv 0) pa_nil)) pe_int))) pss_nil)
      (pss_one (ps_ret (pe_ifExp (pt_cmpR op_eq (pe_callB (cr_sumT rfl) (by rfl) T.sum (by decide +kernel) (pa_cons (pe_cal C_numbers_behind hr rfl pass0 (pa_cons (pv 0) pa_nil)) pa_nil)) pe_int (nomark _)) (pe_callB call_len_seq (by rfl) T.len PySem.boot_len (pa_cons (pv 0) pa_nil)) pe_non)))))), ?_⟩
    refine ⟨_, rfl, l, _, rfl, .inl hS, rfl, _, rfl, ?_⟩
    unfold wrH at k
    by_cases h0 : ws = []
    · subst h0
      exact ifT (by rw [dec_int, List.length_map]; exact decide_eq_true rfl) (k H (Same.refl _))
    have hl0 : 0 < ws.length := List.length_pos_iff.mpr h0
    obtain ⟨w0, r, rfl⟩ : ∃ w0 r, ws = w0 :: r := by
      cases ws with
      | nil => exact absurd rfl h0
      | cons a b => exact ⟨a, b, rfl⟩
    refine ifF (by rw [dec_int, List.length_map]; exact decide_eq_false (by omega)) ?_
    refine ⟨_, rfl, l, _, _, .str w0, rfl, rfl, hS, at_of (j := 0) rfl (show (List.map V.str (w0 :: r))[0]? = some (V.str w0) from rfl), rfl, _, rfl, ?_⟩
    rw [dec_str, tl_heaps]
    have eh : ((w0 :: r).map tl).headD [] = tl w0 := rfl
    have en : ((w0 :: r).map tl) ≠ [] := by simp
    have et : ((w0 :: r).map tl).tail = r.map tl := rfl
    rw [eh, et] at k
    by_cases hh : tl w0 = sHeaps
    · rw [decide_eq_true hh]
      rw [if_neg (fun z => z.elim (fun q => q hh) en)] at k
      refine iteF ?_
      refine ⟨_, rfl, _, rfl, l, _, rfl, hS, fun p hp => ?_⟩
      rw [cut_tail]
      have s1 : Same H (upd H p (.lst ((((w0 :: r).map V.str).tail)))) := Same.new hp
      have hp1 : (upd H p (.lst ((((w0 :: r).map V.str).tail)))) p = some (.lst (r.map V.str)) := upd_same
      generalize upd H p (.lst ((((w0 :: r).map V.str).tail))) = H1 at hp1 s1 ⊢
      rw [List.length_cons] at hl
      refine ⟨p, _, rfl, SqL.of hp1, for_it (walk_enum (K := K) (a := p) (xs := r.map V.str)) (fun i σ H2 => ∃ v1 v2 : Option V, σ = [some (.ref l), v1, v2] ∧ Same H1 H2 ∧ wrHs (r.map tl) 0 = wrHs ((r.map tl).drop i) i) ⟨none, none, rfl, Same.refl _, rfl⟩ (fun i σ H2 _ ⟨_, _, _, s2, _⟩ => SqL.of (s2 _ _ hp1)) ?_ ?_⟩
      · rintro i x σ H2 H3 hi ⟨v1, v2, rfl, s2, hw⟩ ⟨TT, x1, x2, rfl, hTT, rfl, e1, e2⟩
        have e1' := Option.some.inj e1
        subst e1'
        obtain ⟨wd, hwd, rfl⟩ := str_at e2
        rw [List.length_map] at hi
        have s3 : Same H2 (upd H2 TT (.tup [.int (i : Nat), .str wd])) := Same.new hTT
        refine ⟨TT, _, rfl, SqT.of upd_same, rfl, _, _, rfl, _, _, rfl, rfl, ?_⟩
        refine ⟨_, rfl, _, _, rfl, rfl, _, rfl, ?_⟩
        have hwm : (r.map tl)[i]? = some (tl wd) := by rw [List.getElem?_map, hwd]; rfl
        have hst := wrHs_step (j := 0) hwm
        rw [Nat.add_zero] at hst
        rw [hst] at hw
        by_cases h6 : 6 ≤ i
        · rw [decide_eq_true (show (6 : Int) ≤ ((i : Nat) : Int) by omega)]
          rw [decide_eq_true h6, if_pos (by simp)] at hw
          rw [hw] at k
          refine iteT ⟨_, rfl, _, _, rfl, rfl, ?_⟩
          exact k _ ((s1.trans s2).trans s3)
        · rw [decide_eq_false (show ¬ (6 : Int) ≤ ((i : Nat) : Int) by omega)]
          have hwd' : wd.length ≤ sizeLine := hwl wd (List.mem_cons_of_mem _ (List.mem_of_getElem? hwd))
          refine iteF ⟨_, rfl, wd, 10 ^ 30, rfl, Nat.le_refl _, hwd', _, rfl, ?_⟩
          rw [decide_eq_false h6] at hw
          cases hn : isNm (10 ^ 30) (tl wd) with
          | false =>
            rw [hn, if_pos (by decide)] at hw
            rw [hw] at k
            refine iteT ⟨_, rfl, _, _, rfl, rfl, ?_⟩
            exact k _ ((s1.trans s2).trans s3)
          | true =>
            rw [hn, if_neg (by decide)] at hw
            exact iteF ⟨_, _, rfl, s2.trans s3, hw⟩
      · rintro σ H2 ⟨v1, v2, rfl, s2, hw⟩
        rw [List.length_map] at hw
        have hnone : wrHs (r.map tl) 0 = none := by
          rw [hw, List.drop_of_length_le (by rw [List.length_map]; exact Nat.le_refl _)]
          rfl
        rw [hnone] at k
        have hS2 := (s1.trans s2).seq hS
        simp only at k
        refine ⟨_, rfl, l, _, rfl, .inl hS2, _, _, rfl, rfl, _, _, rfl, rfl, _, rfl, ?_⟩
        rw [List.length_map] at k ⊢
        rw [List.length_cons] at k ⊢
        by_cases h3 : r.length + 1 < 3
        · rw [decide_eq_true (show ((r.length + 1 : Nat) : Int) - 1 < 2 by omega)]
          rw [if_pos h3] at k
          refine iteT ⟨_, rfl, l, _, rfl, .inl hS2, _, _, rfl, rfl, ?_⟩
          rw [List.length_map, List.length_cons]
          exact k _ (s1.trans s2)
        · rw [decide_eq_false (show ¬ ((r.length + 1 : Nat) : Int) - 1 < 2 by omega)]
          rw [if_neg h3] at k
          obtain ⟨hall, hlen⟩ := wrHs_none _ _ hnone
          have hN : Nums (w0 :: r) := nums_of hall
          refine iteF ⟨_, rfl, l, _, rfl, hS2, hN, by rw [List.length_cons]; omega, fun q H3 s3 hq hq3 => ?_⟩
          refine ⟨q, _, rfl, SqT.of hq3, rfl, _, rfl, ?_⟩
          rw [dec_int]
          by_cases hz : (valsL ((w0 :: r).map tl)).sum = 0
          · rw [decide_eq_true hz]
            rw [if_pos hz] at k
            refine iteT ⟨_, rfl, l, _, rfl, .inl (s3.seq hS2), ?_⟩
            rw [List.length_map, List.length_cons]
            exact k _ ((s1.trans s2).trans s3)
          · rw [decide_eq_false hz]
            rw [if_neg hz] at k
            exact iteF (k _ ((s1.trans s2).trans s3))
    · rw [decide_eq_false hh]
      rw [if_pos (.inl hh)] at k
      exact iteT (k H (Same.refl _))
abbrev s_wrong_in_step : Stmt := top 25
theorem sc_wrong_in_step : FnScope ["many", "words"] ["many", "words"] (defScope s_wrong_in_step) := ⟨rfl, rfl, rfl, by decide +kernel, rfl, by decide +kernel, by decide +kernel⟩
theorem ok_wrong_in_step {f : Addr} {fd : FuncData} (F : Fun K "wrong_in_step" "wrong_in_step" s_wrong_in_step f fd) (T : TxtT mg) (C_is_number : Cal P w K mg base CX0 1 "is_number" ["word", "greatest"] spIsNumber) : FnOk P w K mg base CX0 2 f fd ["many", "words"] (spWrongS K) := by
  refine F.ok sc_wrong_in_step (fun vs H Q E h => ?_) (fun cdv A outer s H vs Q E hr h => ?_)
  · obtain ⟨n, l, ws, rfl, _⟩ := h
    rfl
  · obtain ⟨n, l, ws, rfl, h1, h6, hS, hwl, k⟩ := h
    refine ⟨_, (pss_cons (ps_if (PW.pt (pw_or (pt_cmpR op_eq (pe_callB call_len_seq (by rfl) T.len PySem.boot_len (pa_cons (pv 1) pa_nil)) pe_int (nomark _)) (pw_or1 (pt_cmpR op_ne (pe_ix ix_list (pv 1) pe_int (fun _ _ => rfl)) (pe_gstr rfl T.c_STEP_WORD) (nomark _))))) (pss_one (ps_ret pe_int)) pss_nil)
      (pss_cons (ps_if (PW.pt (pw_or (pt_cmpR op_lt (pe_callB call_len_seq (by rfl) T.len PySem.boot_len (pa_cons (pv 1) pa_nil)) pe_int (nomark _)) (pw_or1 (pt_not (pt_val (pe_cal C_is_number hr rfl pass0 (pa_cons (pe_ix ix_list (pv 1) pe_int (fun _ _ => rfl)) (pa_cons (pe_op op_sub (pv 0) pe_int) pa_nil)))))))) (pss_one (ps_ret pe_int)) pss_nil)
      (pss_cons (ps_if (PW.pt (pw_or (pt_cmpR op_lt (pe_callB call_len_seq (by rfl) T.len PySem.boot_len (pa_cons (pv 1) pa_nil)) pe_int (nomark _)) (pw_or (pt_not (pt_val (pe_cal C_is_number hr rfl pass0 (pa_cons (pe_ix ix_list (pv 1) pe_int (fun _ _ => rfl)) (pa_cons (pe_op op_sub (pv 0) pe_int) pa_nil))))) (pw_or1 (pt_cmpR op_eq (pe_ix ix_list (pv 1) pe_int (fun _ _ => rfl)) (pe_ix ix_list (pv 1) pe_int (fun _ _ => rfl)) (nomark _)))))) (pss_one (ps_ret pe_int)) pss_nil)
      (pss_one (ps_ret (pe_ifExp (pt_cmpR op_gt (pe_callB call_len_seq (by rfl) T.len PySem.boot_len (pa_cons (pv 1) pa_nil)) pe_int (nomark _)) pe_int pe_non)))))), ?_⟩
    refine ⟨_, rfl, l, _, rfl, .inl hS, rfl, _, rfl, ?_⟩
    unfold wrS at k
    by_cases h0 : ws = []
    · subst h0
      exact ifT (by rw [dec_int, List.length_map]; exact decide_eq_true rfl) k
    have hl0 : 0 < ws.length := List.length_pos_iff.mpr h0
    obtain ⟨w0, r, rfl⟩ : ∃ w0 r, ws = w0 :: r := by
      cases ws with
      | nil => exact absurd rfl h0
      | cons a b => exact ⟨a, b, rfl⟩
    refine ifF (by rw [dec_int, List.length_map]; exact decide_eq_false (by omega)) ?_
    refine ⟨_, rfl, l, _, _, .str w0, rfl, rfl, hS, at_of (j := 0) rfl (show (List.map V.str (w0 :: r))[0]? = some (V.str w0) from rfl), rfl, _, rfl, ?_⟩
    rw [dec_str, tl_step]
    have eh : ((w0 :: r).map tl).headD [] = tl w0 := rfl
    have en : ((w0 :: r).map tl) ≠ [] := by simp
    have g1 : ∀ {w : Str} {q : List Str}, r = w :: q → ((w0 :: r).map tl).getD 1 [] = tl w := fun e => by rw [e]; rfl
    rw [eh] at k
    by_cases hh : tl w0 = sStep
    · rw [decide_eq_true hh]
      rw [if_neg (fun z => z.elim (fun q => q hh) en)] at k
      refine iteF ?_
      refine ⟨_, rfl, l, _, rfl, .inl hS, _, _, rfl, rfl, _, rfl, ?_⟩
      rw [List.length_map] at k ⊢
      cases r with
      | nil =>
        rw [if_pos (.inl (by simp))] at k
        exact ifT (decide_eq_true (by simp)) k
      | cons w1 r =>
        have e1 : ((w0 :: w1 :: r).map tl).getD 1 [] = tl w1 := rfl
        rw [e1] at k
        rw [decide_eq_false (by rw [List.length_cons, List.length_cons]; omega)]
        have hw1 : w1.length ≤ sizeLine := hwl w1 (by simp)
        have en1 : ((n : Int) - 1) = ((n - 1 : Nat) : Int) := by omega
        refine iteF ⟨_, rfl, l, _, _, .str w1, rfl, rfl, hS, at_of (j := 1) rfl rfl, _, rfl, _, _, rfl, rfl, w1, n - 1, (show [V.str w1, V.int ((n : Int) - 1)] = _ by rw [en1]), by omega, hw1, _, rfl, ?_⟩
        cases hn1 : isNm (n - 1) (tl w1) with
        | false =>
          rw [if_pos (.inr hn1)] at k
          exact iteT k
        | true =>
          rw [if_neg (fun z => z.elim (fun q => by rw [List.length_cons, List.length_cons] at q; omega) fun q => by rw [hn1] at q; cases q)] at k
          refine iteF ?_
          refine ⟨_, rfl, l, _, rfl, .inl hS, _, _, rfl, rfl, _, rfl, ?_⟩
          rw [List.length_map]
          cases r with
          | nil =>
            rw [if_pos (.inl (by simp))] at k
            exact ifT (decide_eq_true (by simp)) k
          | cons w2 r =>
            have e2 : ((w0 :: w1 :: w2 :: r).map tl).getD 2 [] = tl w2 := rfl
            rw [e2] at k
            rw [decide_eq_false (by rw [List.length_cons, List.length_cons, List.length_cons]; omega)]
            have hw2 : w2.length ≤ sizeLine := hwl w2 (by simp)
            refine iteF ⟨_, rfl, l, _, _, .str w2, rfl, rfl, hS, at_of (j := 2) rfl rfl, _, rfl, _, _, rfl, rfl, w2, n - 1, (show [V.str w2, V.int ((n : Int) - 1)] = _ by rw [en1]), by omega, hw2, _, rfl, ?_⟩
            cases hn2 : isNm (n - 1) (tl w2) with
            | false =>
              rw [if_pos (.inr (.inl hn2))] at k
              exact iteT k
            | true =>
              refine iteF ⟨_, rfl, l, _, _, .str w1, rfl, rfl, hS, at_of (j := 1) rfl rfl, _, rfl, l, _, _, .str w2, rfl, rfl, hS, at_of (j := 2) rfl rfl, rfl, _, rfl, ?_⟩
              rw [dec_str]
              by_cases he : tl w1 = tl w2
              · rw [decide_eq_true he]
                rw [if_pos (.inr (.inr he))] at k
                exact iteT k
              · rw [decide_eq_false he]
                rw [if_neg (fun z => z.elim (fun q => by rw [List.length_cons, List.length_cons, List.length_cons] at q; omega) fun q => q.elim (fun q => by rw [hn2] at q; cases q) he)] at k
                refine iteF ⟨_, rfl, l, _, rfl, .inl hS, _, _, rfl, rfl, _, rfl, ?_⟩
                rw [List.length_map]
                by_cases h3 : 3 < (w0 :: w1 :: w2 :: r).length
                · rw [decide_eq_true (show (3 : Int) < (((w0 :: w1 :: w2 :: r).length : Nat) : Int) by omega)]
                  rw [if_pos h3] at k
                  exact iteT k
                · rw [decide_eq_false (show ¬ (3 : Int) < (((w0 :: w1 :: w2 :: r).length : Nat) : Int) by omega)]
                  rw [if_neg h3] at k
                  exact iteF k
    · rw [decide_eq_false hh]
      rw [if_pos (.inl hh)] at k
      exact iteT k
end
end Hd
set_option maxHeartbeats 4000000
/-! A text is read, or refused; a text is written. -/
namespace Hd
open PySem PySem.Spec PyProof.Rows L2 TL NumText
/-! ### the error with its two fields -/
def spItInit (K : PySem.W.Frag) : Sp := fun vs H Q _ => ∃ (a C : Addr) (v u : V), vs = [.ref a, v, u] ∧ OexC K C ∧ PySem.W.findIn K (.ref C) "line" = some none ∧ PySem.W.findIn K (.ref C) "word" = some none ∧ H a = some (exo a C none) ∧
  ∀ dx, H dx = none → dx ≠ a → Q .non (upd (upd (upd H dx (exd dx [(("line" : Str), v)])) a (exo a C (some dx))) dx (exd dx [(("word" : Str), u), (("line" : Str), v)]))
structure ItT (P : Program) (w : World) (K : PySem.W.Frag) (mg : Str → Option Value) (base : Heap) (C : Addr) : Prop where
  gC : mg "InvalidText" = some (.ref C)
  ox : OexC K C
  nl : PySem.W.findIn K (.ref C) "line" = some none
  nw : PySem.W.findIn K (.ref C) "word" = some none
  init : ∃ (fI : Addr) (fdI : FuncData), PySem.W.findIn K (.ref C) "__init__" = some (some (.ref fI)) ∧ PySem.W.typeIn K (.ref fI) = some (.type "function") ∧ Binds K fdI ["self", "line", "word"] [] ∧ FnOk P w K mg base CX0 1 fI fdI ["self", "line", "word"] (spItInit K)
/-- what the fields hold -/
def itF (l w : Nat) : List (Str × V) := [(("word" : Str), .int (w : Int)), (("line" : Str), .int (l : Int))]
theorem it_made {P : Program} {w : World} {K : PySem.W.Frag} {mg : Str → Option Value} {base : Heap} {C : Addr} (B : ItT P w K mg base C) {H : Hp} {l k : Nat} {E : XK} {x y : V} (hx : x = .int (l : Int)) (hy : y = .int (k : Int)) (h : ∀ d H', Same H H' → H' d = some (.xd (itF l k)) → E (.ref C) (some d) H') :
    [x, y].length ≤ 1000 ∧ ∀ a, H a = none → spItInit K (.ref a :: ([x, y] ++ [])) (upd H a (exo a C none))
      (fun v H2 => v = .non ∧ ∃ (d : Addr) (fs : List (Str × V)), H2 a = some (exo a C (some d)) ∧ H2 d = some (exd d fs) ∧ H d = none ∧ E (.ref C) (some d) (upd (del H2 a) d (.xd fs))) (fun _ _ _ => False) := by
  subst hx hy
  refine ⟨by show 2 ≤ 1000; decide, fun a ha => ⟨a, C, _, _, rfl, B.ox, B.nl, B.nw, upd_same, fun dx hd hne => ⟨rfl, dx, _, ?_, upd_same, ?_, ?_⟩⟩⟩
  · rw [upd_ne hne.symm, upd_same]
  · rw [upd_ne hne] at hd
    exact hd
  · rw [upd_ne hne] at hd
    refine h dx _ (fun z o e => ?_) upd_same
    have n1 : z ≠ dx := ne_of_none e hd
    have n2 : z ≠ a := ne_of_none e ha
    rw [upd_ne n1, del_ne n2, upd_ne n1, upd_ne n2, upd_ne n1, upd_ne n2]
    exact e
/-! ### numbers -/
theorem sum_int (l : List Nat) : (l.map fun n : Nat => (n : Int)).sum = ((l.sum : Nat) : Int) := by
  induction l with
  | nil => rfl
  | cons a r ih => rw [List.map_cons, List.sum_cons, List.sum_cons, ih]; omega
theorem wrH_good {ws : List (List Nat)} (h : wrH ws = none) : hpsB (valsL ws) = true := by
  unfold wrH at h
  split at h
  · cases h
  · cases hw : wrHs ws.tail 0 with
    | some k =>
      rw [hw] at h
      cases h
    | none =>
      rw [hw] at h
      simp only at h
      obtain ⟨hall, hlen⟩ := wrHs_none _ _ hw
      split at h
      · cases h
      · split at h
        · cases h
        · rename_i h3 hs
          have hl : (valsL ws).length = ws.length - 1 := by
            unfold valsL
            rw [List.length_map, List.length_tail]
          rw [List.length_tail] at hlen
          have hv : ∀ v ∈ valsL ws, 0 ≤ v ∧ v ≤ 10 ^ 30 := fun v hv => by
            unfold valsL at hv
            obtain ⟨w, hw', rfl⟩ := List.mem_map.mp hv
            have := (isNm_eq (hall w hw')).2.1
            exact ⟨by omega, by exact_mod_cast this⟩
          have hpos : 0 ≤ (valsL ws).sum := sum_ge _ (nn_of fun v hv' => (hv v hv').1)
          unfold hpsB
          simp only [Bool.and_eq_true, decide_eq_true_eq, List.all_eq_true, List.mem_map]
          refine ⟨⟨by omega, by omega⟩, fun x ⟨y, hy, e⟩ => ?_, by omega⟩
          subst e
          unfold inR
          simp only [id, Bool.and_eq_true, decide_eq_true_eq]
          exact hv y hy
theorem wrH_nums {ws : List Str} (h : wrH (ws.map tl) = none) : Nums ws := by
  unfold wrH at h
  split at h
  · cases h
  · cases hw : wrHs (ws.map tl).tail 0 with
    | some k =>
      rw [hw] at h
      cases h
    | none => exact nums_of (wrHs_none _ _ hw).1
/-- a step that may stand -/
theorem wrS_good {n : Nat} {ws : List (List Nat)} (hn : 1 ≤ n) (h : wrS n ws = none) : ws.length = 3 ∧ (stepL ws).1 < n ∧ (stepL ws).2 < n ∧ (stepL ws).1 ≠ (stepL ws).2 ∧ valsL ws = [((stepL ws).1 : Int), ((stepL ws).2 : Int)] ∧
    ∀ w ∈ ws.tail, isNm (10 ^ 30) w = true ∨ (AllDigits w ∧ w ≠ [] ∧ w.length ≤ (numL (n - 1)).length) := by
  unfold wrS at h
  split at h
  · cases h
  · split at h
    · cases h
    · split at h
      · cases h
      · split at h
        · cases h
        · rename_i h0 h1 h2 h3
          have l3 : ws.length = 3 := by
            have : ¬ ws.length < 3 := fun z => h2 (.inl z)
            omega
          obtain ⟨a, b, c, rfl⟩ : ∃ a b c, ws = [a, b, c] := by
            match ws, l3 with
            | [a, b, c], _ => exact ⟨a, b, c, rfl⟩
          have hb : isNm (n - 1) b = true := by
            cases z : isNm (n - 1) b with
            | true => rfl
            | false => exact absurd (.inr z) h1
          have hc : isNm (n - 1) c = true := by
            cases z : isNm (n - 1) c with
            | true => rfl
            | false => exact absurd (.inr (.inl z)) h2
          have hbc : b ≠ c := fun z => h2 (.inr (.inr z))
          obtain ⟨b1, b2, b3, b4, b5⟩ := isNm_eq hb
          obtain ⟨c1, c2, c3, c4, c5⟩ := isNm_eq hc
          have s1 : (stepL [a, b, c]).1 = digitsVal b := rfl
          have s2 : (stepL [a, b, c]).2 = digitsVal c := rfl
          refine ⟨rfl, by rw [s1]; omega, by rw [s2]; omega, fun z => hbc ?_, rfl, fun w hw => ?_⟩
          · rw [s1, s2] at z
            rw [b1, c1, z]
          · have : w = b ∨ w = c := by simpa using hw
            rcases this with e | e
            · rw [e]
              exact .inr ⟨b3, b4, b5⟩
            · rw [e]
              exact .inr ⟨c3, c4, c5⟩
theorem wrS_nums {n : Nat} {ws : List Str} (hn : 1 ≤ n) (h6 : n ≤ 6) (h : wrS n (ws.map tl) = none) : Nums ws := fun w hw => by
  obtain ⟨_, _, _, _, _, hall⟩ := wrS_good hn h
  have hm : tl w ∈ (ws.map tl).tail := by
    rw [← List.map_tail]
    exact List.mem_map.mpr ⟨w, hw, rfl⟩
  rcases hall _ hm with z | ⟨a, b, c⟩
  · obtain ⟨_, _, a, b, c⟩ := isNm_eq z
    rw [len_big] at c
    exact ⟨a, b, by rw [len_tl]; omega⟩
  · rw [numL_one (by omega)] at c
    exact ⟨a, b, by rw [len_tl]; omega⟩
theorem spl_part_len {s : Nat} : ∀ (l acc : List Nat), ∀ w ∈ spl [s] 0 acc l, w.length ≤ acc.length + l.length
  | [], acc, w, hw => by
    rw [spl_nil] at hw
    have := List.mem_singleton.mp hw
    rw [this]
    simp
  | c :: r, acc, w, hw => by
    by_cases hc : c = s
    · subst hc
      rw [spl_sep] at hw
      rcases List.mem_cons.mp hw with e | hw
      · rw [e]
        omega
      · have := spl_part_len r [] w hw
        rw [List.length_nil] at this
        rw [List.length_cons]
        omega
    · rw [spl_miss (pre_of_head _ _ hc)] at hw
      have := spl_part_len r (acc ++ [c]) w hw
      rw [List.length_append, List.length_singleton] at this
      rw [List.length_cons]
      omega
theorem wds_len {l w : List Nat} (h : w ∈ wds l) : w.length ≤ l.length := by
  have := spl_part_len (s := 32) l [] w (List.mem_filter.mp h).1
  rw [List.length_nil] at this
  omega
theorem lns_len {l w : List Nat} (h : w ∈ lns l) : w.length ≤ l.length := by
  have := spl_part_len (s := 10) l [] w h
  rw [List.length_nil] at this
  omega
theorem spl_count {s : Nat} : ∀ (l acc : List Nat), (spl [s] 0 acc l).length ≤ l.length + 1
  | [], acc => by rw [spl_nil]; simp
  | c :: r, acc => by
    by_cases hc : c = s
    · subst hc
      rw [spl_sep, List.length_cons, List.length_cons]
      have := spl_count (s := c) r []
      omega
    · rw [spl_miss (pre_of_head _ _ hc), List.length_cons]
      have := spl_count (s := s) r (acc ++ [c])
      omega
theorem wds_count (l : List Nat) : (wds l).length ≤ l.length + 1 := Nat.le_trans (List.length_filter_le _ _) (spl_count l [])
/-! ### the promises -/
def spRdH (K : PySem.W.Frag) (C : Addr) : Sp := fun vs H Q E => ∃ (l : Addr) (ws : List Str), vs = [.ref l] ∧ SqL K H l (ws.map V.str) ∧ ws.length < sizeLine ∧ (∀ w ∈ ws, w.length ≤ sizeLine) ∧
  (wrH (ws.map tl) = none → ∀ (p : Addr) (H' : Hp), Same H H' → H p = none → H' p = some (.tup ((valsL (ws.map tl)).map V.int)) → Q (.ref p) H') ∧
  (∀ k, wrH (ws.map tl) = some k → ∀ d H', Same H H' → H' d = some (.xd (itF 1 k)) → E (.ref C) (some d) H')
def spRead (K : PySem.W.Frag) (C : Addr) : Sp := fun vs H Q E => ∃ x : Str, vs = [.str x] ∧ x.length + 2 < sizeLine ∧
  (∀ ns ps, rdL (lns (tl x)) = .ok ns ps → ∀ (p t u : Addr) (qs : List Srow) (H' : Hp), Same H H' → H' p = some (.tup [.ref t, .ref u]) → SqT K H' t (ns.map V.int) → PlanAt K H' u ns.length qs → qs.map (·.2) = ps → Q (.ref p) H') ∧
  (∀ l k, rdL (lns (tl x)) = .bad l k → ∀ d H', Same H H' → H' d = some (.xd (itF l k)) → E (.ref C) (some d) H')
section
variable {P : Program} {w : World} {K : PySem.W.Frag} {mg : Str → Option Value} {base : Heap}
abbrev s_InvalidText_init : Stmt := inClass (top 4) 0
theorem sc_InvalidText_init : FnScope ["self", "line", "word"] ["self", "line", "word"] (defScope s_InvalidText_init) := ⟨rfl, rfl, rfl, by decide +kernel, rfl, by decide +kernel, by decide +kernel⟩
theorem ok_it_init {f : Addr} {fd : FuncData} (F : Fun K "__init__" "InvalidText.__init__" s_InvalidText_init f fd) : FnOk P w K mg base CX0 1 f fd ["self", "line", "word"] (spItInit K) := by
  refine F.ok sc_InvalidText_init (fun vs H Q E h => ?_) (fun cdv A outer s H vs Q E hr h => ?_)
  · obtain ⟨a, C, v, u, rfl, _⟩ := h
    rfl
  · obtain ⟨a, C, v, u, rfl, O, nl, nw, ha, k⟩ := h
    refine ⟨_, pss_cons (ps_ost (pv 0) (pv 1)) (pss_one (ps_ost (pv 0) (pv 2))), ?_⟩
    refine ⟨_, rfl, _, rfl, a, C, rfl, O, nl, .inl ⟨ha, fun dx hd hne => ?_⟩⟩
    exact ⟨_, rfl, _, rfl, a, C, rfl, O, nw, .inr ⟨dx, _, upd_same, by rw [upd_ne hne, upd_same], by show 1 ≤ 900; decide, k dx hd hne⟩⟩
abbrev s_read_heaps : Stmt := top 23
theorem sc_read_heaps : FnScope ["words", "wrong"] ["words"] (defScope s_read_heaps) := ⟨rfl, rfl, rfl, by decide +kernel, rfl, by decide +kernel, by decide +kernel⟩
theorem ok_read_heaps {f C : Addr} {fd : FuncData} (F : Fun K "read_heaps" "read_heaps" s_read_heaps f fd) (B : ItT P w K mg base C) (C_wrong_in_heaps : Cal P w K mg base CX0 2 "wrong_in_heaps" ["words"] (spWrongH K)) (C_numbers_behind : Cal P w K mg base CX0 1 "numbers_behind" ["words"] (spNums K)) :
    FnOk P w K mg base (L2.CX P w) 4 f fd ["words"] (spRdH K C) := by
  refine F.okX sc_read_heaps (fun vs H Q E h => ?_) (fun cdv A outer s H vs Q E hr h => ?_)
  · obtain ⟨l, ws, rfl, _⟩ := h
    rfl
  · obtain ⟨l, ws, rfl, hS, hl, hwl, k1, k2⟩ := h
    obtain ⟨fI, fdI, iI, tI, bI, GI⟩ := B.init
    refine ⟨_, (pss_cons (ps_set (i := 1) sc_read_heaps.nd rfl (Or.inl rfl) (pe_cal C_wrong_in_heaps hr rfl pass0 (pa_cons (pv 0) pa_nil)))
      (pss_cons (ps_if (pt_cmpR op_notN (pv 1) pe_non (nomark _)) (pss_one (ps_raise rfl (takes_of rfl rfl rfl rfl) (pmk_oex B.ox iI tI GI (hr.mono (by decide)) bI .nil pass0 rfl B.gC (pa_cons pe_int (pa_cons (pv 1) pa_nil))))) pss_nil)
      (pss_one (ps_ret (pe_cal C_numbers_behind hr rfl pass0 (pa_cons (pv 0) pa_nil)))))), ?_⟩
    refine ⟨_, rfl, l, ws, rfl, hS, hl, hwl, fun H1 s1 => ?_⟩
    cases hw : wrH (ws.map tl) with
    | some k =>
      refine ⟨_, rfl, rfl, _, rfl, iteT ?_⟩
      exact ⟨_, rfl, it_made B rfl rfl fun d H' s' hd => k2 k hw d H' (s1.trans s') hd⟩
    | none =>
      refine ⟨_, rfl, rfl, _, rfl, iteF ?_⟩
      exact ⟨_, rfl, l, ws, rfl, s1.seq hS, wrH_nums hw, by omega, fun p H' s' hp hp' => k1 hw p H' (s1.trans s') (s1.free hp) hp'⟩
abbrev s_read_plan : Stmt := top 19
theorem sc_read_plan : FnScope ["text", "lines", "heaps", "plan", "index", "line", "words", "wrong"] ["text"] (defScope s_read_plan) := ⟨rfl, rfl, rfl, by decide +kernel, rfl, by decide +kernel, by decide +kernel⟩
theorem ok_read_plan {f C : Addr} {fd : FuncData} (F : Fun K "read_plan" "read_plan" s_read_plan f fd) (T : TxtT mg) (c_LP : ∃ t, mg "LONGEST_PLAN" = some (.int 20000 t)) (B : ItT P w K mg base C) (C_words_of : Cal P w K mg base CX0 1 "words_of" ["line"] (spWords K)) (C_read_heaps : Cal P w K mg base (L2.CX P w) 4 "read_heaps" ["words"] (spRdH K C))
    (C_wrong_in_step : Cal P w K mg base CX0 2 "wrong_in_step" ["many", "words"] (spWrongS K)) (C_numbers_behind : Cal P w K mg base CX0 1 "numbers_behind" ["words"] (spNums K)) : FnOk P w K mg base (L2.CX P w) 5 f fd ["text"] (spRead K C) := by
  refine F.okX sc_read_plan (fun vs H Q E h => ?_) (fun cdv A outer s H vs Q E hr h => ?_)
  · obtain ⟨x, rfl, _⟩ := h
    rfl
  · obtain ⟨x, rfl, hx, k1, k2⟩ := h
    obtain ⟨fI, fdI, iI, tI, bI, GI⟩ := B.init
    refine ⟨_, (pss_cons (ps_set (i := 1) sc_read_plan.nd rfl (Or.inl rfl) (pe_split (pv 0) pe_str))
      (pss_cons (ps_set (i := 2) sc_read_plan.nd rfl (Or.inl rfl) (pe_cal C_read_heaps hr rfl (passes_call (takes_of rfl rfl rfl rfl) (fun _ _ _ _ h => h)) (pa_cons (pe_cal C_words_of hr rfl pass0 (pa_cons (pe_ix ix_list (pv 1) pe_int (fun _ _ => rfl)) pa_nil)) pa_nil)))
      (pss_cons (ps_set (i := 3) sc_read_plan.nd rfl (Or.inl rfl) (pe_lst pa_nil))
      (pss_cons (ps_for (passes_of rfl) rfl (pi_enum (by rfl) T.enumerate (pa_cons (pe_slice sl_list (pv 1) (po_some pe_int) po_none) pa_nil)) (pg_tup rfl (pgs_cons (pg_name (i := 4) sc_read_plan.nd rfl (Or.inl rfl)) (pgs_cons (pg_name (i := 5) sc_read_plan.nd rfl (Or.inl rfl)) pgs_nil)))
      (pss_cons (ps_set (i := 6) sc_read_plan.nd rfl (Or.inl rfl) (pe_cal C_words_of hr rfl pass0 (pa_cons (pv 5) pa_nil)))
      (pss_cons (ps_set (i := 7) sc_read_plan.nd rfl (Or.inl rfl) (pe_ifExp (pt_cmpR op_ge (pv 4) (pe_gint rfl c_LP) (nomark _)) pe_int (pe_cal C_wrong_in_step hr rfl pass0 (pa_cons (pe_callB call_len_seq (by rfl) T.len PySem.boot_len (pa_cons (pv 2) pa_nil)) (pa_cons (pv 6) pa_nil)))))
      (pss_cons (ps_if (pt_cmpR op_notN (pv 7) pe_non (nomark _)) (pss_one (ps_raise rfl (takes_of rfl rfl rfl rfl) (pmk_oex B.ox iI tI GI (hr.mono (by decide)) bI .nil pass0 rfl B.gC (pa_cons (pe_op op_add (pv 4) pe_int) (pa_cons (pv 7) pa_nil))))) pss_nil)
      (pss_one (ps_expr (pe_bm PySem.F.plainAttrs_list PySem.F.slot_list_append PySem.F.type_list_append mt_append (pv 3) (pa_cons (pe_cal C_numbers_behind hr rfl pass0 (pa_cons (pv 6) pa_nil)) pa_nil))))))))
      (pss_one (ps_ret (pe_tup (pa_cons (pv 2) (pa_cons (pe_callTy call_tuple_of (by rfl) T.tuple (by decide +kernel) (pa_cons (pv 3) pa_nil)) pa_nil))))))))), ?_⟩
    have hnl : (("\n" : Str).length == 0) = false := by rw [len_tl, tl_nl]; rfl
    refine ⟨_, rfl, ⟨_, rfl⟩, _, _, rfl, rfl, hnl, by omega, fun p hp => ?_⟩
    have es := split_spl x ("\n" : Str) (by rw [tl_nl]; simp) (kind_ok (by decide +kernel))
    rw [tl_nl] at es
    have es : (Txt.split x ("\n" : Str)).map tl = lns (tl x) := es
    have hpl : (upd H p (.lst ((Txt.split x ("\n" : Str)).map V.str))) p = some (.lst ((Txt.split x ("\n" : Str)).map V.str)) := upd_same
    have s1 : Same H (upd H p (.lst ((Txt.split x ("\n" : Str)).map V.str))) := Same.new hp
    generalize Txt.split x ("\n" : Str) = ls at es hpl s1 ⊢
    generalize upd H p (.lst (ls.map V.str)) = H1 at hpl s1 ⊢
    have hxl := len_tl x
    have hll : ∀ y ∈ ls, y.length + 2 ≤ sizeLine := fun y hy => by
      have hm : tl y ∈ lns (tl x) := by rw [← es]; exact List.mem_map.mpr ⟨y, hy, rfl⟩
      have := lns_len hm
      rw [len_tl y]
      omega
    obtain ⟨l0, r, rfl⟩ : ∃ l0 r, ls = l0 :: r := by
      cases ls with
      | nil => exact absurd es.symm (lns_ne _)
      | cons a b => exact ⟨a, b, rfl⟩
    rw [← es] at k1 k2
    have hrl : r.length + 1 ≤ x.length + 1 := by
      have e := congrArg List.length es
      rw [List.length_map, List.length_cons] at e
      rw [e, hxl]
      exact spl_count _ _
    -- the first line
    have words_ok : ∀ {y : Str} {ws : List Str}, y.length + 2 ≤ sizeLine → ws.map tl = wds (tl y) → ws.length < sizeLine ∧ ∀ w ∈ ws, w.length ≤ sizeLine := fun {y ws} hy e => by
      have hyl := len_tl y
      refine ⟨?_, fun w hw => ?_⟩
      · have e2 := congrArg List.length e
        rw [List.length_map] at e2
        have := wds_count (tl y)
        omega
      · have hm : tl w ∈ wds (tl y) := by rw [← e]; exact List.mem_map.mpr ⟨w, hw, rfl⟩
        have := wds_len hm
        rw [len_tl w]
        omega
    have hl0 := hll l0 (List.mem_cons_self ..)
    refine ⟨_, rfl, p, _, _, .str l0, rfl, rfl, SqL.of hpl, at_of (j := 0) rfl rfl, l0, rfl, hl0, fun wl ws H2 s2 hwl0 hwl hws => ?_⟩
    obtain ⟨w1, w2⟩ := words_ok hl0 hws
    refine ⟨wl, ws, rfl, SqL.of hwl, w1, w2, fun hnone t H3 s3 ht0 ht3 => ?_, fun k hk d H' s' hd => ?_⟩
    · -- the steps
      rw [hws] at hnone ht3
      have e0 : ((l0 :: r).map tl).headD [] = tl l0 := rfl
      have e1 : ((l0 :: r).map tl).tail = r.map tl := rfl
      have hg := wrH_good hnone
      obtain ⟨g2, g6⟩ := hps_len hg
      have rd : rdL ((l0 :: r).map tl) = (match rdS (valsL (wds (tl l0))).length (r.map tl) 0 [] with
          | .inl (a, b) => Rd.bad a b
          | .inr ps => Rd.ok (valsL (wds (tl l0))) ps) := by
        unfold rdL
        rw [e0, e1, hnone] <;> rfl
      rw [rd] at k1 k2
      generalize hv : valsL (wds (tl l0)) = vals at rd k1 k2 hg g2 g6 ht3
      have s23 := s2.trans s3
      refine ⟨by show 0 ≤ sizeLine; decide, fun pl hpl0 => ?_⟩
      have s4 : Same H3 (upd H3 pl (.lst [])) := Same.new hpl0
      have s14 := s1.trans (s23.trans s4)
      refine ⟨_, rfl, _, rfl, p, _, rfl, SqL.of ((s23.trans s4) _ _ hpl), fun ll hll0 => ?_⟩
      rw [cut_tail]
      have s5 : Same (upd H3 pl (.lst [])) (upd (upd H3 pl (.lst [])) ll (.lst (((l0 :: r).map V.str).tail))) := Same.new hll0
      have hll1 : (upd (upd H3 pl (.lst [])) ll (.lst (((l0 :: r).map V.str).tail))) ll = some (.lst (r.map V.str)) := upd_same
      have hpl1 := s5 _ _ (upd_same (H := H3) (a := pl) (o := .lst []))
      have ht5 := s5 _ _ (s4 _ _ ht3)
      have nlp : ll ≠ pl := (ne_of_none (upd_same (H := H3) (a := pl) (o := .lst [])) hll0).symm
      have s15 := s14.trans s5
      have npl : H pl = none := (s1.trans s23).free hpl0
      clear hll0 hpl0
      generalize upd (upd H3 pl (.lst [])) ll (.lst (((l0 :: r).map V.str).tail)) = H5 at s5 hll1 hpl1 ht5 s15 ⊢
      refine ⟨ll, _, rfl, SqL.of hll1, for_it (walk_enum (K := K) (a := ll) (xs := r.map V.str)) (fun i σ H6 => ∃ (qs : List Srow) (v4 v5 v6 v7 : Option V), σ = [some (.str x), some (.ref p), some (.ref t), some (.ref pl), v4, v5, v6, v7] ∧ Same H H6 ∧ H6 ll = some (.lst (r.map V.str)) ∧ H6 t = some (.tup (vals.map V.int)) ∧
          PrL K H6 pl vals.length qs ∧ qs.length = i ∧ (0 < i → i ≤ 20000) ∧ rdS vals.length (r.map tl) 0 [] = rdS vals.length ((r.map tl).drop i) i (qs.map (·.2)))
        ⟨[], none, none, none, none, rfl, s15, hll1, ht5, ⟨hpl1, fun q hq => (nomatch hq)⟩, rfl, fun z => absurd z (by decide), rfl⟩ (fun i σ H6 _ ⟨_, _, _, _, _, _, _, q, _⟩ => SqL.of q) ?_ ?_⟩
      · rintro i y σ H6 H7 hi ⟨qs, v4, v5, v6, v7, rfl, s6, h6l, h6t, hQ, hql, hq2, hrd⟩ ⟨TT, x1, x2, rfl, hTT, rfl, e1', e2'⟩
        have e1'' := Option.some.inj e1'
        subst e1''
        obtain ⟨y, hy, rfl⟩ := str_at e2'
        rw [List.length_map] at hi
        have hyl := hll y (List.mem_cons_of_mem _ (List.mem_of_getElem? hy))
        have s7 : Same H6 (upd H6 TT (.tup [.int (i : Nat), .str y])) := Same.new hTT
        refine ⟨TT, _, rfl, SqT.of upd_same, rfl, _, _, rfl, _, _, rfl, rfl, ?_⟩
        refine ⟨_, rfl, y, rfl, hyl, fun wl ws H8 s8 hwl0 hwl hws => ?_⟩
        obtain ⟨w1, w2⟩ := words_ok hyl hws
        have s68 := s7.trans s8
        have hym : (r.map tl)[i]? = some (tl y) := by rw [List.getElem?_map, hy]; rfl
        obtain ⟨hiy, eyy⟩ := List.getElem?_eq_some_iff.mp hym
        have hst : rdS vals.length ((r.map tl).drop i) i (qs.map (·.2)) = (match (if 20000 ≤ i then some 1 else wrS vals.length (wds (tl y))) with
            | some w => (Sum.inl (i + 2, w) : (Nat × Nat) ⊕ List (Nat × Nat))
            | none => rdS vals.length ((r.map tl).drop (i + 1)) (i + 1) (qs.map (·.2) ++ [stepL (wds (tl y))])) := by
          rw [List.drop_eq_getElem_cons hiy, eyy]
          rfl
        rw [hst] at hrd
        have refuse : ∀ (k : Nat) (H9 : Hp), Same H8 H9 → (if 20000 ≤ i then some 1 else wrS vals.length (wds (tl y))) = some k → ∀ (σ' : L2.St) (u v : V), u = .int ((i + 2 : Nat) : Int) → v = .int (k : Int) →
            [u, v].length ≤ 1000 ∧ ∀ a, H9 a = none → spItInit K (.ref a :: ([u, v] ++ [])) (upd H9 a (exo a C none)) (fun v H2 => v = .non ∧ ∃ (d : Addr) (fs : List (Str × V)), H2 a = some (exo a C (some d)) ∧ H2 d = some (exd d fs) ∧ H9 d = none ∧ E (.ref C) (some d) (upd (del H2 a) d (.xd fs))) (fun _ _ _ => False) := fun k H9 s9 hk σ' u v hu hv => by
          rw [hk] at hrd
          refine it_made B hu hv fun d H' s' hd => k2 (i + 2) k ?_ d H' (((s6.trans s68).trans s9).trans s') hd
          rw [hrd]
        by_cases hbig : 20000 ≤ i
        · refine ⟨_, rfl, _, _, rfl, rfl, _, rfl, ?_⟩
          refine ifT (decide_eq_true (show (20000 : Int) ≤ ((i : Nat) : Int) by omega)) ?_
          refine ⟨_, rfl, rfl, _, rfl, iteT ?_⟩
          exact ⟨_, rfl, _, _, rfl, rfl, _, rfl, refuse 1 _ (Same.refl _) (by rw [if_pos hbig]) [] _ _ rfl rfl⟩
        · refine ⟨_, rfl, _, _, rfl, rfl, _, rfl, ?_⟩
          refine ifF (decide_eq_false (show ¬ (20000 : Int) ≤ ((i : Nat) : Int) by omega)) ?_
          have h8t := s68 _ _ h6t
          refine ⟨_, rfl, t, _, rfl, .inr (SqT.of h8t), _, rfl, vals.length, wl, ws, by rw [List.length_map], by omega, g6, SqL.of hwl, w2, ?_⟩
          rw [hws]
          rw [if_neg hbig] at hrd refuse
          cases hw : wrS vals.length (wds (tl y)) with
          | some k =>
            refine ⟨_, rfl, rfl, _, rfl, iteT ?_⟩
            exact ⟨_, rfl, _, _, rfl, rfl, _, rfl, refuse k _ (Same.refl _) hw [] _ _ rfl rfl⟩
          | none =>
            refine ⟨_, rfl, rfl, _, rfl, iteF ?_⟩
            rw [hw] at hrd
            have hw' : wrS vals.length (ws.map tl) = none := by rw [hws]; exact hw
            obtain ⟨_, a1, a2, a3, a4, _⟩ := wrS_good (by omega) hw
            have hQ8 := hQ.same s68
            refine ⟨_, rfl, .inl ⟨rfl, _, SqL.of hQ8.ls⟩, _, rfl, wl, ws, rfl, SqL.of hwl, wrS_nums (by omega) g6 hw', by omega, fun q H9 s9 hq hq9 => ?_⟩
            rw [hws, a4] at hq9
            have hQ9 := hQ8.same s9
            refine ⟨pl, _, _, rfl, rfl, hQ9.ls, ?_, ?_⟩
            · rw [List.length_map, hql, sizeLine_eq]
              omega
            have s69 := s68.trans s9
            have npll : ll ≠ pl := fun z => by
              have := hQ.ls
              rw [← z, h6l] at this
              rw [z] at nlp
              exact nlp rfl
            refine ⟨qs ++ [(q, stepL (wds (tl y)))], _, _, _, _, rfl, ?_, ?_, ?_, ?_, by rw [List.length_append, hql]; rfl, fun _ => by omega, ?_⟩
            · exact fun a o e => by rw [upd_ne (ne_of_none e npl)]; exact (s6.trans s69) a o e
            · rw [upd_ne npll]
              exact s69 _ _ h6l
            · rw [upd_ne (ne_of (s69 _ _ h6t) hQ9.ls (by intro z; cases z))]
              exact s69 _ _ h6t
            · have := hQ9.more (qs := [(q, stepL (wds (tl y)))]) fun z hz => by
                have e : z = (q, stepL (wds (tl y))) := by simpa using hz
                subst e
                exact ⟨SqT.of hq9, a1, a2, a3⟩
              exact this
            · rw [hrd, List.map_append]
              rfl
      · rintro σ H6 ⟨qs, v4, v5, v6, v7, rfl, s6, h6l, h6t, hQ, hql, hq2, hrd⟩
        rw [List.length_map] at hrd
        rw [List.drop_of_length_le (by rw [List.length_map]; exact Nat.le_refl _)] at hrd
        have hrd : rdS vals.length (r.map tl) 0 [] = .inr (qs.map (·.2)) := hrd
        rw [hrd] at k1
        refine ⟨_, rfl, _, rfl, pl, _, rfl, .inl ⟨SqL.of hQ.ls, fun u hu => ⟨by show 2 ≤ sizeLine; decide, fun pp hpp => ?_⟩⟩⟩
        have s7 : Same H6 (upd H6 u (.tup (qs.map fun p => V.ref p.1))) := Same.new hu
        have s8 : Same (upd H6 u (.tup (qs.map fun p => V.ref p.1))) (upd (upd H6 u (.tup (qs.map fun p => V.ref p.1))) pp (.tup [.ref t, .ref u])) := Same.new hpp
        exact k1 vals _ rfl pp t u qs _ (s6.trans (s7.trans s8)) upd_same (SqT.of ((s7.trans s8) _ _ h6t)) ⟨SqT.of (s8 _ _ upd_same), fun z hz => (hQ.st z hz).same (s7.trans s8)⟩ rfl
    · rw [hws] at hk
      refine k2 1 k ?_ d H' ((s1.trans s2).trans s') hd
      unfold rdL
      have e0 : ((l0 :: r).map tl).headD [] = tl l0 := rfl
      rw [e0, hk]
end
end Hd
set_option maxHeartbeats 4000000
/-! A text is written. -/
namespace Hd
open PySem PySem.Spec PyProof.Rows L2 TL NumText
def natsOf (ns : List Int) : List Nat := ns.map Int.toNat
theorem hps_range {ns : List Int} (h : hpsB ns = true) : ∀ n ∈ ns, 0 ≤ n ∧ n ≤ 10 ^ 30 := fun n hn => by
  unfold hpsB at h
  simp only [Bool.and_eq_true, decide_eq_true_eq, List.all_eq_true, List.mem_map] at h
  have := h.2.1 (inR 0 (10 ^ 30) n) ⟨n, hn, rfl⟩
  unfold inR at this
  simp only [id, Bool.and_eq_true, decide_eq_true_eq] at this
  exact this
theorem nats_cast {ns : List Int} (h : ∀ n ∈ ns, 0 ≤ n ∧ n ≤ 10 ^ 30) : (natsOf ns).map (fun n : Nat => (n : Int)) = ns := by
  unfold natsOf
  rw [List.map_map]
  have : ns.map ((fun n : Nat => (n : Int)) ∘ Int.toNat) = ns.map id := List.map_congr_left fun n hn => by
    show ((n.toNat : Nat) : Int) = n
    exact Int.toNat_of_nonneg (h n hn).1
  rw [this, List.map_id]
theorem nats_le {ns : List Int} (h : ∀ n ∈ ns, 0 ≤ n ∧ n ≤ 10 ^ 30) : ∀ n ∈ natsOf ns, n ≤ 10 ^ 30 := fun n hn => by
  unfold natsOf at hn
  obtain ⟨m, hm, rfl⟩ := List.mem_map.mp hn
  have := h m hm
  omega
def lineH (ns : List Nat) : List Nat := joinL [32] (rowH ns)
def lineS (p : Nat × Nat) : List Nat := joinL [32] (rowS p)
def textL (ns : List Int) (ps : List (Nat × Nat)) : List Nat := joinL [10] (lineH (natsOf ns) :: ps.map lineS)
theorem joinL_len (S : List Nat) : ∀ ls : List (List Nat), (joinL S ls).length ≤ (ls.map (·.length)).sum + ls.length * S.length
  | [] => Nat.zero_le _
  | [p] => by
    show p.length ≤ p.length + 0 + 1 * S.length
    omega
  | p :: q :: r => by
    have ih := joinL_len S (q :: r)
    show (p ++ (S ++ joinL S (q :: r))).length ≤ _
    rw [List.length_append, List.length_append, List.map_cons, List.sum_cons, List.length_cons, Nat.succ_mul]
    omega
theorem lineS_len {p : Nat × Nat} (h1 : p.1 < 10) (h2 : p.2 < 10) : (lineS p).length = 8 := by
  unfold lineS rowS
  show (sStep ++ ([32] ++ (numL p.1 ++ ([32] ++ numL p.2)))).length = 8
  rw [List.length_append, List.length_append, List.length_append, List.length_append, numL_one h1, numL_one h2]
  rfl
theorem lineH_len {ns : List Nat} (h : ∀ n ∈ ns, n ≤ 10 ^ 30) (h6 : ns.length ≤ 6) : (lineH ns).length ≤ 205 := by
  have hs : ∀ l : List Nat, (∀ n ∈ l, n ≤ 10 ^ 30) → ((l.map numL).map (·.length)).sum ≤ 31 * l.length := by
    intro l
    induction l with
    | nil => intro _; exact Nat.le_refl _
    | cons a r ih =>
      intro hl'
      have h1 := ih fun n hn => hl' n (List.mem_cons_of_mem _ hn)
      have h2 : (numL a).length ≤ 31 := numL_len (by decide) (Nat.lt_of_le_of_lt (hl' a (List.mem_cons_self ..)) (by decide))
      rw [List.map_cons, List.map_cons, List.sum_cons, List.length_cons]
      omega
  have a := joinL_len [32] (rowH ns)
  have b := hs ns h
  unfold lineH
  unfold rowH at a ⊢
  rw [List.map_cons, List.sum_cons, List.length_cons, List.length_map] at a
  have : sHeaps.length = 5 := rfl
  have e1 : [32].length = 1 := rfl
  rw [e1, Nat.mul_one] at a
  omega
/-- no line holds an end of line -/
theorem lineH_free (ns : List Nat) : 10 ∉ lineH ns := by
  have key : ∀ ls : List (List Nat), (∀ l ∈ ls, 10 ∉ l) → 10 ∉ joinL [32] ls := by
    intro ls
    induction ls with
    | nil => intro _ h; cases h
    | cons p r ih =>
      intro h
      cases r with
      | nil => exact h p (List.mem_singleton.mpr rfl)
      | cons q r =>
        intro hm
        have hm : 10 ∈ p ++ ([32] ++ joinL [32] (q :: r)) := hm
        rcases List.mem_append.mp hm with z | z
        · exact h p (List.mem_cons_self ..) z
        · rcases List.mem_append.mp z with z | z
          · revert z; decide
          · exact ih (fun l hl => h l (List.mem_cons_of_mem _ hl)) z
  refine key _ fun l hl => ?_
  rcases List.mem_cons.mp hl with e | hl
  · rw [e]; decide
  · obtain ⟨n, _, rfl⟩ := List.mem_map.mp hl
    exact numL_free (.inl (by decide))
theorem lineS_free (p : Nat × Nat) : 10 ∉ lineS p := by
  have h1 : 10 ∉ numL p.1 := numL_free (.inl (by decide))
  have h2 : 10 ∉ numL p.2 := numL_free (.inl (by decide))
  show 10 ∉ sStep ++ ([32] ++ (numL p.1 ++ ([32] ++ numL p.2)))
  intro hm
  simp only [List.mem_append] at hm
  rcases hm with z | z | z | z | z
  · revert z; decide
  · revert z; decide
  · exact h1 z
  · revert z; decide
  · exact h2 z
theorem lns_text (ns : List Int) (ps : List (Nat × Nat)) : lns (textL ns ps) = lineH (natsOf ns) :: ps.map lineS := by
  unfold lns textL
  refine spl_join (by simp) fun p hp => ?_
  rcases List.mem_cons.mp hp with e | hp
  · rw [e]; exact lineH_free _
  · obtain ⟨q, _, rfl⟩ := List.mem_map.mp hp
    exact lineS_free q
theorem wds_H (ns : List Nat) : wds (lineH ns) = rowH ns := wds_join fun w hw => by
  rcases List.mem_cons.mp hw with e | hw
  · rw [e]; exact ⟨by decide, by decide⟩
  · obtain ⟨n, _, rfl⟩ := List.mem_map.mp hw
    exact ⟨numL_ne n, numL_free (.inl (by decide))⟩
theorem wds_S (p : Nat × Nat) : wds (lineS p) = rowS p := wds_join fun w hw => by
  have : w = sStep ∨ w = numL p.1 ∨ w = numL p.2 := by simpa [rowS] using hw
  rcases this with e | e | e
  · rw [e]; exact ⟨by decide, by decide⟩
  · rw [e]; exact ⟨numL_ne _, numL_free (.inl (by decide))⟩
  · rw [e]; exact ⟨numL_ne _, numL_free (.inl (by decide))⟩
theorem sum_nats {ns : List Int} (h : hpsB ns = true) : ((natsOf ns).map fun n : Nat => (n : Int)).sum ≠ 0 := by
  rw [nats_cast (hps_range h)]
  unfold hpsB at h
  simp only [Bool.and_eq_true, decide_eq_true_eq] at h
  omega
theorem natsOf_len (ns : List Int) : (natsOf ns).length = ns.length := by unfold natsOf; rw [List.length_map]
/-- lines whose words are those of heaps and steps are read -/
theorem rd_good {ns : List Int} {ps : List (Nat × Nat)} {ls : List (List Nat)} (h : hpsB ns = true) (hp : ∀ p ∈ ps, p.1 < ns.length ∧ p.2 < ns.length ∧ p.1 ≠ p.2) (hl : ps.length ≤ 20000) (e : ls.map wds = rowH (natsOf ns) :: ps.map rowS) : rdL ls = .ok ns ps := by
  have hr := hps_range h
  obtain ⟨h2, h6⟩ := hps_len h
  have := rdL_ok e (nats_le hr) (by rw [natsOf_len]; exact h2) (by rw [natsOf_len]; exact h6) (sum_nats h) (by rw [natsOf_len]; exact hp) hl
  rw [nats_cast hr] at this
  exact this
theorem rd_text {ns : List Int} {ps : List (Nat × Nat)} (h : hpsB ns = true) (hp : ∀ p ∈ ps, p.1 < ns.length ∧ p.2 < ns.length ∧ p.1 ≠ p.2) (hl : ps.length ≤ 20000) : rdL (lns (textL ns ps)) = .ok ns ps := by
  refine rd_good h hp hl ?_
  rw [lns_text, List.map_cons, wds_H, List.map_map]
  congr 1
  exact List.map_congr_left fun p _ => wds_S p
def spWrite (K : PySem.W.Frag) : Sp := fun vs H Q _ => ∃ (t u : Addr) (ns : List Int) (ps : List Srow), vs = [.ref t, .ref u] ∧ SqT K H t (ns.map V.int) ∧ hpsB ns = true ∧ PlanAt K H u ns.length ps ∧ ps.length ≤ 20000 ∧ ∀ x H', Same H H' → tl x = textL ns (ps.map (·.2)) → Q (.str x) H'
section
variable {P : Program} {w : World} {K : PySem.W.Frag} {mg : Str → Option Value} {base : Heap}
abbrev s_write_plan : Stmt := top 18
theorem sc_write_plan : FnScope ["heaps", "plan", "lines", "step"] ["heaps", "plan"] (defScope s_write_plan) := ⟨rfl, rfl, rfl, by decide +kernel, rfl, by decide +kernel, by decide +kernel⟩
theorem ok_write_plan {f : Addr} {fd : FuncData} (F : Fun K "write_plan" "write_plan" s_write_plan f fd) (T : TxtT mg) (C_check_heaps : Cal P w K mg base CX0 3 "check_heaps" ["heaps"] (spChkHeaps K)) (C_check_plan : Cal P w K mg base CX0 3 "check_plan" ["many", "plan"] (spChkPlan K))
    (C_line_of : Cal P w K mg base CX0 1 "line_of" ["word", "numbers"] (spLine K)) : FnOk P w K mg base CX0 4 f fd ["heaps", "plan"] (spWrite K) := by
  refine F.ok sc_write_plan (fun vs H Q E h => ?_) (fun cdv A outer s H vs Q E hr h => ?_)
  · obtain ⟨t, u, ns, ps, rfl, _⟩ := h
    rfl
  · obtain ⟨t, u, ns, ps, rfl, hS, hg, hP, hl, k⟩ := h
    have hrg := hps_range hg
    obtain ⟨h2, h6⟩ := hps_len hg
    refine ⟨_, (pss_cons (ps_expr (pe_cal C_check_heaps hr rfl pass0 (pa_cons (pv 0) pa_nil)))
      (pss_cons (ps_expr (pe_cal C_check_plan hr rfl pass0 (pa_cons (pe_callB call_len_seq (by rfl) T.len PySem.boot_len (pa_cons (pv 0) pa_nil)) (pa_cons (pv 1) pa_nil))))
      (pss_cons (ps_set (i := 2) sc_write_plan.nd rfl (Or.inl rfl) (pe_lst (pa_cons (pe_cal C_line_of hr rfl pass0 (pa_cons (pe_gstr rfl T.c_HEAPS_WORD) (pa_cons (pv 0) pa_nil))) pa_nil)))
      (pss_cons (ps_for PassesOwn.never rfl (pi_tup (pv 1)) (pg_name (i := 3) sc_write_plan.nd rfl (Or.inl rfl))
      (pss_one (ps_expr (pe_bm PySem.F.plainAttrs_list PySem.F.slot_list_append PySem.F.type_list_append mt_append (pv 2) (pa_cons (pe_cal C_line_of hr rfl pass0 (pa_cons (pe_gstr rfl T.c_STEP_WORD) (pa_cons (pv 3) pa_nil))) pa_nil)))))
      (pss_one (ps_ret (pe_join pe_str (pv 2)))))))), ?_⟩
    refine ⟨_, rfl, t, ns, rfl, hS, hg, fun H1 s1 => ?_⟩
    refine ⟨_, rfl, t, _, rfl, .inr (Same.tup s1 hS), _, rfl, u, ns.length, ps, by rw [List.length_map], hP.same s1, hl, fun H2 s2 => ?_⟩
    have s12 := s1.trans s2
    have S2 := Same.tup s12 hS
    have S2' : SqT K H2 t ((natsOf ns).map fun n : Nat => V.int (n : Int)) := by
      have e := congrArg (List.map V.int) (nats_cast hrg)
      rw [List.map_map] at e
      have e' : (natsOf ns).map (fun n : Nat => V.int (n : Int)) = ns.map V.int := e
      rw [e']
      exact S2
    refine ⟨_, rfl, "heaps", t, natsOf ns, rfl, S2', nats_le hrg, by rw [natsOf_len]; exact h6, by rw [len_tl, tl_heaps]; decide, fun x0 H3 s3 hx0 => ?_⟩
    rw [tl_heaps] at hx0
    have hx0 : tl x0 = lineH (natsOf ns) := hx0
    refine ⟨by show 1 ≤ sizeLine; decide, fun L hL => ?_⟩
    have s4 : Same H3 (upd H3 L (.lst [.str x0])) := Same.new hL
    have s14 := s12.trans (s3.trans s4)
    have nL : H L = none := (s12.trans s3).free hL
    refine ⟨_, rfl, u, rfl, ⟨_, (hP.same s14).tp⟩, for_tup (K := K) (a := u) (xs := ps.map fun p => V.ref p.1) (fun i σ H5 => ∃ (xs : List Str) (v : Option V), σ = [some (.ref t), some (.ref u), some (.ref L), v] ∧ Same H H5 ∧ H5 L = some (.lst (xs.map V.str)) ∧ xs.map tl = lineH (natsOf ns) :: ((ps.map (·.2)).take i).map lineS)
      ⟨[x0], none, rfl, s14, upd_same, by rw [List.map_cons, List.map_nil, hx0]; rfl⟩ (fun i σ H5 _ ⟨_, _, _, q, _⟩ => (hP.same q).tp) ?_ ?_⟩
    · rintro i y σ H5 hy ⟨xs, v, rfl, s5, hL5, hxs⟩
      rw [List.getElem?_map] at hy
      obtain ⟨p, hp, rfl⟩ := Option.map_eq_some_iff.mp hy
      obtain ⟨q1, q2, q3, q4⟩ := (hP.same s5).st p (List.mem_of_getElem? hp)
      have hil : i < ps.length := (List.getElem?_eq_some_iff.mp hp).1
      refine ⟨_, rfl, .inl ⟨rfl, _, SqL.of hL5⟩, _, rfl, "step", p.1, [p.2.1, p.2.2], rfl, q1, fun n hn => ?_, by show 2 ≤ 6; decide, by rw [len_tl, tl_step]; decide, fun x H6 s6 hx => ?_⟩
      · have : n = p.2.1 ∨ n = p.2.2 := by simpa using hn
        have h10 : (6 : Nat) ≤ 10 ^ 30 := by decide
        omega
      · rw [tl_step] at hx
        have hx : tl x = lineS p.2 := hx
        have hlen : xs.length = i + 1 := by
          have e := congrArg List.length hxs
          rw [List.length_map, List.length_cons, List.length_map, List.length_take, List.length_map] at e
          omega
        refine ⟨L, _, _, rfl, rfl, s6 _ _ hL5, by rw [List.length_map, sizeLine_eq]; omega, ?_⟩
        refine ⟨xs ++ [x], _, rfl, fun a o e => by rw [upd_ne (ne_of_none e nL)]; exact (s5.trans s6) a o e, by rw [upd_same, List.map_append]; rfl, ?_⟩
        have hpm : (ps.map (·.2))[i]? = some p.2 := by rw [List.getElem?_map, hp]; rfl
        rw [List.map_append, hxs, map_take hpm, List.map_cons, List.map_nil, hx]
        rfl
    · rintro σ H5 ⟨xs, v, rfl, s5, hL5, hxs⟩
      rw [List.length_map, List.take_of_length_le (by rw [List.length_map]; exact Nat.le_refl _)] at hxs
      refine ⟨⟨_, rfl⟩, _, rfl, _, L, xs, rfl, rfl, .inl (SqL.of hL5), ?_, k _ _ s5 ?_⟩
      · have e1 : ("\n" : Str).length = 1 := by rw [len_tl, tl_nl]; rfl
        have e2 : (xs.map (·.length)).sum = ((xs.map tl).map (·.length)).sum := by
          rw [List.map_map]
          exact congrArg List.sum (List.map_congr_left fun x _ => len_tl x)
        have e3 : xs.length = ps.length + 1 := by
          have e := congrArg List.length hxs
          rw [List.length_map, List.length_cons, List.length_map, List.length_map] at e
          exact e
        have e4 : (((ps.map (·.2)).map lineS).map (·.length)).sum = 8 * ps.length := by
          have hst := hP.st
          clear hxs hP hl k e3
          induction ps with
          | nil => rfl
          | cons p r ih =>
            obtain ⟨_, q2, q3, _⟩ := hst p (List.mem_cons_self ..)
            have := ih fun q hq => hst q (List.mem_cons_of_mem _ hq)
            rw [List.map_cons, List.map_cons, List.map_cons, List.sum_cons, List.length_cons, lineS_len (by omega) (by omega), this]
            omega
        have e5 := lineH_len (nats_le hrg) (by rw [natsOf_len]; exact h6)
        rw [e1, e2, hxs, List.map_cons, List.sum_cons, e4, e3]
        omega
      · rw [join_eq, tl_join, tl_nl, hxs]
        rfl
end
end Hd
set_option maxHeartbeats 4000000
/-! The law's own steps; what changes and what stays. -/
namespace Hd
open PySem PySem.Spec PyProof.Rows L2
def mutO : HO → Bool
  | .lst _ => true
  | .dK _ => true
  | .dT _ => true
  | _ => false
/-- what stands at no place of M, or never changes, stands as it stood -/
structure Chg (M : List Addr) (H H' : Hp) : Prop where
  keep : ∀ a o, H a = some o → (mutO o = false ∨ a ∉ M) → H' a = some o
  there : ∀ a o, H a = some o → ∃ o', H' a = some o'
theorem Chg.refl {M : List Addr} {H : Hp} : Chg M H H := ⟨fun _ _ e _ => e, fun _ o e => ⟨o, e⟩⟩
theorem Chg.of {M : List Addr} {H H' : Hp} (s : Same H H') : Chg M H H' := ⟨fun a o e _ => s a o e, fun a o e => ⟨o, s a o e⟩⟩
theorem Chg.trans {M : List Addr} {H H1 H2 : Hp} (a : Chg M H H1) (b : Chg M H1 H2) : Chg M H H2 :=
  ⟨fun x o e n => b.keep x o (a.keep x o e n) n, fun x o e => by
    obtain ⟨o1, e1⟩ := a.there x o e
    exact b.there x o1 e1⟩
theorem Chg.mono {M N : List Addr} {H H' : Hp} (c : Chg M H H') (h : ∀ a ∈ M, a ∈ N) : Chg N H H' := ⟨fun a o e n => c.keep a o e (n.imp id fun z q => z (h a q)), c.there⟩
theorem Chg.upd {M : List Addr} {H H' : Hp} {a : Addr} {o : HO} (c : Chg M H H') (h : a ∈ M) (m : ∀ u, H' a = some u → mutO u = true) : Chg M H (upd H' a o) :=
  ⟨fun x u e n => by
    have e' := c.keep x u e n
    by_cases q : x = a
    · subst q
      rcases n with n | n
      · rw [m u e'] at n
        cases n
      · exact absurd h n
    · rw [upd_ne q]
      exact e', fun x u e => by
    by_cases q : x = a
    · exact ⟨o, by rw [q, upd_same]⟩
    · rw [upd_ne q]
      exact c.there x u e⟩
theorem Chg.free {M : List Addr} {H H' : Hp} {p : Addr} (c : Chg M H H') (h : H' p = none) : H p = none := by
  cases e : H p with
  | none => rfl
  | some o =>
    obtain ⟨o', e'⟩ := c.there p o e
    rw [h] at e'
    cases e'
theorem Chg.new {M : List Addr} {H H1 : Hp} {p : Addr} {o : HO} (c : Chg M H H1) (hp : H1 p = none) : Chg M H (L2.upd H1 p o) := c.trans (.of (Same.new hp))
theorem Chg.tup {M : List Addr} {K : PySem.W.Frag} {H H' : Hp} {a : Addr} {xs : List V} (c : Chg M H H') (h : SqT K H a xs) : SqT K H' a xs := by
  rcases h with (h | ⟨o, h⟩) | h
  · exact .inl (.inl (c.keep _ _ h (.inl rfl)))
  · exact .inl (.inr ⟨o, c.keep _ _ h (.inl rfl)⟩)
  · exact .inr h
theorem Chg.st {M : List Addr} {K : PySem.W.Frag} {H H' : Hp} {n : Nat} {p : Srow} (c : Chg M H H') (h : StAt K H n p) : StAt K H' n p := ⟨c.tup h.1, h.2⟩
/-- what was not there may change -/
theorem Same.chg {M : List Addr} {H H1 H2 : Hp} (s : Same H H1) (c : Chg M H1 H2) (h : ∀ a ∈ M, H a = none) : Same H H2 := fun a o e => c.keep a o (s a o e) (.inr fun q => by rw [h a q] at e; cases e)
theorem Kept.chg {h c : Addr} {H H' : Hp} (k : Kept h c H H') (d : DrawAt H h c) (d' : DrawAt H' h c) : Chg [h, c] H H' := by
  obtain ⟨⟨st, ix, cells, h1, h2, h3⟩, ne⟩ := d
  obtain ⟨⟨st', ix', cells', h1', h2', h3'⟩, ne'⟩ := d'
  refine ⟨fun a o e n => ?_, fun a o e => ?_⟩
  · refine k a o e ?_ ?_
    · rintro rfl
      rcases n with n | n
      · rw [h1] at e
        cases e
        cases n
      · exact n (List.mem_cons_self ..)
    · rintro rfl
      rcases n with n | n
      · rw [h2] at e
        cases e
        cases n
      · exact n (List.mem_cons_of_mem _ (List.mem_cons_self ..))
  · by_cases q1 : a = h
    · exact ⟨_, by rw [q1]; exact h1'⟩
    · by_cases q2 : a = c
      · exact ⟨_, by rw [q2]; exact h2'⟩
      · exact ⟨o, k a o e q1 q2⟩
theorem DrawAt.chg {M : List Addr} {H H' : Hp} {h c : Addr} (d : DrawAt H h c) (g : Chg M H H') (n1 : h ∉ M) (n2 : c ∉ M) : DrawAt H' h c := by
  obtain ⟨⟨st, ix, cells, h1, h2, h3⟩, ne⟩ := d
  exact ⟨⟨st, ix, cells, g.keep _ _ h1 (.inr n1), g.keep _ _ h2 (.inr n2), h3⟩, ne⟩
section
variable {P : Program} {w : World} {K : PySem.W.Frag} {mg : Str → Option Value} {base : Heap}
abbrev s_l_can : Stmt := top 31
theorem sc_l_can : FnScope ["_law_heaps_here", "_law_step"] ["_law_heaps_here", "_law_step"] (defScope s_l_can) := ⟨rfl, rfl, rfl, by decide +kernel, rfl, by decide +kernel, by decide +kernel⟩
theorem ok_l_can {f : Addr} {fd : FuncData} (F : Fun K "_law_can" "_law_can" s_l_can f fd) : FnOk P w K mg base CX0 1 f fd ["_law_heaps_here", "_law_step"] (spCan K) := by
  refine F.ok sc_l_can (fun vs H Q E h => ?_) (fun cdv A outer s H vs Q E hr h => ?_)
  · obtain ⟨t, u, ns, i, j, rfl, _⟩ := h
    rfl
  · obtain ⟨t, u, ns, i, j, rfl, hS, hU, hi, hj, k⟩ := h
    refine ⟨_, (pss_one (ps_ret (pe_chain op_lt op_le pe_int (pe_ix ix_tup (pv 0) (pe_ix ix_tup (pv 1) pe_int (fun _ _ => rfl)) (fun _ _ => rfl)) (pe_ix ix_tup (pv 0) (pe_ix ix_tup (pv 1) pe_int (fun _ _ => rfl)) (fun _ _ => rfl))))), ?_⟩
    refine ⟨_, rfl, _, rfl, u, _, _, _, rfl, rfl, hU, rfl, t, _, _, _, rfl, rfl, hS, at_of rfl (getD_at hj), _, _, rfl, rfl, _, rfl, ?_⟩
    unfold can at k
    cases hd : decide (0 < ns.getD j 0) with
    | false =>
      rw [hd] at k
      exact iteF k
    | true =>
      rw [hd] at k
      exact iteT ⟨_, rfl, _, rfl, u, _, _, _, rfl, rfl, hU, rfl, t, _, _, _, rfl, rfl, hS, at_of rfl (getD_at hi), _, _, rfl, rfl, k⟩
abbrev s_l_behind : Stmt := top 32
theorem sc_l_behind : FnScope ["_law_heaps_here", "_law_step", "_law_row"] ["_law_heaps_here", "_law_step"] (defScope s_l_behind) := ⟨rfl, rfl, rfl, by decide +kernel, rfl, by decide +kernel, by decide +kernel⟩
theorem ok_l_behind {f : Addr} {fd : FuncData} (F : Fun K "_law_behind" "_law_behind" s_l_behind f fd) (T : Tx K mg) : FnOk P w K mg base CX0 1 f fd ["_law_heaps_here", "_law_step"] (spBehind K) := by
  refine F.ok sc_l_behind (fun vs H Q E h => ?_) (fun cdv A outer s H vs Q E hr h => ?_)
  · obtain ⟨t, u, ns, i, j, rfl, _⟩ := h
    rfl
  · obtain ⟨t, u, ns, i, j, rfl, hS, hU, hi, hj, hij, k⟩ := h
    refine ⟨_, (pss_cons (ps_set (i := 2) sc_l_behind.nd rfl (Or.inl rfl) (pe_callTy call_list_of (by rfl) T.list (by decide +kernel) (pa_cons (pv 0) pa_nil)))
      (pss_cons (ps_asg (pe_op op_sub (pe_ix ix_list (pv 2) (pe_ix ix_tup (pv 1) pe_int (fun _ _ => rfl)) (fun _ _ => rfl)) (pe_ix ix_tup (pv 0) (pe_ix ix_tup (pv 1) pe_int (fun _ _ => rfl)) (fun _ _ => rfl))) (pg_sub (pv 2) (pe_ix ix_tup (pv 1) pe_int (fun _ _ => rfl)) set_list))
      (pss_cons (ps_asg (pe_op op_add (pe_ix ix_list (pv 2) (pe_ix ix_tup (pv 1) pe_int (fun _ _ => rfl)) (fun _ _ => rfl)) (pe_ix ix_tup (pv 0) (pe_ix ix_tup (pv 1) pe_int (fun _ _ => rfl)) (fun _ _ => rfl))) (pg_sub (pv 2) (pe_ix ix_tup (pv 1) pe_int (fun _ _ => rfl)) set_list))
      (pss_one (ps_ret (pe_callTy call_tuple_of (by rfl) T.tuple (by decide +kernel) (pa_cons (pv 2) pa_nil))))))), ?_⟩
    refine ⟨_, rfl, t, _, rfl, .inr hS, fun l hl => ?_⟩
    have s1 : Same H (upd H l (.lst (ns.map V.int))) := Same.new hl
    refine ⟨_, rfl, _, rfl, u, _, _, _, rfl, rfl, Same.tup s1 hU, rfl, l, _, _, _, rfl, rfl, SqL.of upd_same, at_of rfl (getD_at hi), _, rfl, _, rfl, u, _, _, _, rfl, rfl, Same.tup s1 hU, rfl, t, _, _, _, rfl, rfl, Same.tup s1 hS, at_of rfl (getD_at hj), _, _, rfl, rfl, ?_⟩
    refine ⟨_, rfl, _, rfl, u, _, _, _, rfl, rfl, Same.tup s1 hU, rfl, l, _, _, i, rfl, rfl, upd_same, (by rw [List.length_map]; exact ixN_nat hi), ?_⟩
    rw [upd_upd]
    have s2 : Same H (upd H l (.lst ((ns.map V.int).set i (.int (ns.getD i 0 - ns.getD j 0))))) := Same.new hl
    refine ⟨_, rfl, _, rfl, u, _, _, _, rfl, rfl, Same.tup s2 hU, rfl, l, _, _, _, rfl, rfl, SqL.of upd_same, at_of rfl (by rw [List.getElem?_set_ne hij]; exact getD_at hj), _, rfl, _, rfl, u, _, _, _, rfl, rfl, Same.tup s2 hU, rfl, t, _, _, _, rfl, rfl, Same.tup s2 hS, at_of rfl (getD_at hj), _, _, rfl, rfl, ?_⟩
    refine ⟨_, rfl, _, rfl, u, _, _, _, rfl, rfl, Same.tup s2 hU, rfl, l, _, _, j, rfl, rfl, upd_same, (by rw [List.length_set, List.length_map]; exact ixN_nat hj), ?_⟩
    rw [upd_upd]
    refine ⟨_, rfl, l, _, rfl, .inl ⟨SqL.of upd_same, fun p hp => ?_⟩⟩
    have hpl : p ≠ l := fun e => by
      rw [e, upd_same] at hp
      cases hp
    have hp0 : H p = none := by
      rw [upd_ne hpl] at hp
      exact hp
    refine k p _ (same_upd (Same.new hl) hp0) hp0 ?_
    rw [upd_same]
    unfold mv shf
    rw [List.map_set, List.map_set]
abbrev s_l_pairs : Stmt := top 33
theorem sc_l_pairs : FnScope ["_law_size", "_law_found", "_law_one", "_law_other"] ["_law_size"] (defScope s_l_pairs) := ⟨rfl, rfl, rfl, by decide +kernel, rfl, by decide +kernel, by decide +kernel⟩
theorem ok_l_pairs {f : Addr} {fd : FuncData} (F : Fun K "_law_pairs" "_law_pairs" s_l_pairs f fd) (T : Tx K mg) : FnOk P w K mg base CX0 1 f fd ["_law_size"] (spPairs K) := by
  refine F.ok sc_l_pairs (fun vs H Q E h => ?_) (fun cdv A outer s H vs Q E hr h => ?_)
  · obtain ⟨n, rfl, _⟩ := h
    rfl
  · obtain ⟨n, rfl, hn, k⟩ := h
    refine ⟨_, (pss_cons (ps_set (i := 1) sc_l_pairs.nd rfl (Or.inl rfl) (pe_lst pa_nil))
      (pss_cons (ps_for PassesOwn.never rfl (pi_range1 rfl T.range (pa_cons (pv 0) pa_nil)) (pg_name (i := 2) sc_l_pairs.nd rfl (Or.inr rfl))
      (pss_one (ps_set (i := 1) sc_l_pairs.nd rfl (Or.inl rfl) (pe_op op_cat (pv 1) (pe_lc (own := [("_law_other", 3)]) (g := gName 3) (by rfl) sc_l_pairs.nd (pi_range1 rfl T.range (pa_cons (pv 0) pa_nil)) (blkOk_by (own := [("_law_other", 3)]) (N := ["_law_size", "_law_found", "_law_one", "_law_other"]) (sc := defScope s_l_pairs) (by decide +kernel)) (fun _ _ _ _ _ => pg_name (i := 3) sc_l_pairs.nd rfl (Or.inl rfl)) (fun _ _ _ _ _ => pts_one (pt_cmpR op_ne (pv 3) (pv 2) (nomark _))) (fun _ _ _ _ _ => (pe_tup (pa_cons (pv 2) (pa_cons (pv 3) pa_nil)))))))))
      (pss_one (ps_ret (pv 1))))), ?_⟩
    refine ⟨by show 0 ≤ sizeLine; decide, fun l0 hl0 => ?_⟩
    refine ⟨_, rfl, _, rfl, by omega, by omega, ?_⟩
    rw [Int.toNat_natCast]
    refine for_range (lo := 0) (n := n) (fun i σ H1 => ∃ (l : Addr) (qs : List (Addr × Nat × Nat)) (v1 v2 : Option V), σ = [some (.int (n : Int)), some (.ref l), v1, v2] ∧ Same H H1 ∧ H l = none ∧ PrL K H1 l n qs ∧ qs.map (·.2) = prsTo n i) ⟨l0, [], none, none, rfl, Same.new hl0, hl0, ⟨upd_same, fun p hp => (nomatch hp)⟩, rfl⟩ ?_ ?_
    · rintro i σ H1 hi ⟨l, qs, v1, v2, rfl, s1, hl, hP, hq⟩
      rw [Int.zero_add]
      have hql : qs.length ≤ 36 := by
        have e := congrArg List.length hq
        rw [List.length_map] at e
        rw [e]
        exact prsTo_short hn i (by omega)
      refine ⟨_, rfl, _, rfl, _, rfl, by omega, by omega, ?_⟩
      rw [Int.toNat_natCast]
      intro D hD
      refine lc_range (lo := 0) (n := n) (fun j H2 => ∃ rs : List (Addr × Nat × Nat), Same H1 H2 ∧ PrL K H2 D n rs ∧ rs.map (·.2) = rowTo i j) ⟨[], Same.new hD, ⟨upd_same, fun p hp => (nomatch hp)⟩, rfl⟩ ?_ ?_
      · rintro j H2 hj ⟨rs, s2, hR, hr2⟩
        rw [Int.zero_add]
        refine ⟨rfl, _, rfl, _, rfl, rfl, _, rfl, ?_⟩
        rw [dec_int]
        have hrl : rs.length ≤ j := by
          have e := congrArg List.length hr2
          rw [List.length_map] at e
          rw [e]
          unfold rowTo
          rw [List.length_map]
          exact Nat.le_trans (List.length_filter_le _ _) (by rw [List.length_range]; exact Nat.le_refl _)
        by_cases hji : j = i
        · have z : decide ((j : Int) = (i : Int)) = true := decide_eq_true (by omega)
          rw [z]
          refine iteF ⟨rs, s2, hR, ?_⟩
          rw [rowTo_succ, if_pos hji, List.append_nil]
          exact hr2
        · have z : decide ((j : Int) = (i : Int)) = false := decide_eq_false (by omega)
          rw [z]
          refine iteT ⟨_, rfl, _, rfl, by show 2 ≤ sizeLine; decide, fun TT hT => ?_⟩
          have s3 : Same H2 (upd H2 TT (.tup [.int (i : Int), .int (j : Int)])) := Same.new hT
          refine ⟨_, s3 _ _ hR.ls, ?_, rs ++ [(TT, i, j)], same_upd (s2.trans s3) hD, ⟨?_, fun p hp => ?_⟩, ?_⟩
          · rw [List.length_map, sizeLine_eq]
            omega
          · rw [upd_same, List.map_append]
            rfl
          · have nTD : TT ≠ D := (ne_of_none hR.ls hT).symm
            rcases List.mem_append.mp hp with hp | hp
            · obtain ⟨a, b⟩ := hR.st p hp
              refine ⟨?_, b⟩
              have a3 := Same.tup s3 a
              have a4 : SqT K (upd (upd H2 TT (.tup [.int (i : Int), .int (j : Int)])) D (.lst (rs.map (fun p => V.ref p.1) ++ [V.ref TT]))) p.1 [.int (p.2.1 : Int), .int (p.2.2 : Int)] := by
                rcases a3 with (a3 | ⟨o, a3⟩) | a3
                · exact .inl (.inl (by rw [upd_ne (ne_of a3 (s3 _ _ hR.ls) (by intro z; cases z))]; exact a3))
                · exact .inl (.inr ⟨o, by rw [upd_ne (ne_of a3 (s3 _ _ hR.ls) (by intro z; cases z))]; exact a3⟩)
                · exact .inr a3
              exact a4
            · have ep : p = (TT, i, j) := by simpa using hp
              subst ep
              exact ⟨SqT.of (by rw [upd_ne nTD, upd_same]), hi, hj, fun z => hji z.symm⟩
          · rw [List.map_append, hr2, rowTo_succ, if_neg hji]
            rfl
      · rintro H2 ⟨rs, s2, hR, hr2⟩
        refine ⟨l, D, _, _, rfl, rfl, s2 _ _ hP.ls, hR.ls, ?_, fun p hp => ?_⟩
        · have e := congrArg List.length hr2
          rw [List.length_map] at e
          unfold rowTo at e
          rw [List.length_map] at e
          have := List.length_filter_le (fun j => decide (j ≠ i)) (List.range n)
          rw [List.length_range] at this
          rw [List.length_map, List.length_map, sizeLine_eq]
          omega
        have s3 : Same H2 (upd H2 p (.lst (qs.map (fun p => V.ref p.1) ++ rs.map (fun p => V.ref p.1)))) := Same.new hp
        have s4 := (s1.trans s2).trans s3
        refine ⟨p, qs ++ rs, _, _, rfl, s4, (s1.trans s2).free hp, ⟨by rw [upd_same, List.map_append], fun q hq' => ?_⟩, by rw [List.map_append, hq, hr2, prsTo_succ]; rfl⟩
        rcases List.mem_append.mp hq' with hq' | hq'
        · exact (hP.same (s2.trans s3)).st q hq'
        · exact (hR.same s3).st q hq'
    · rintro σ H1 ⟨l, qs, v1, v2, rfl, s1, hl, hP, hq⟩
      exact ⟨_, rfl, k l qs H1 s1 hl hP hq⟩
end
end Hd
set_option maxHeartbeats 4000000
/-! A text with one fault: which line, which word. -/
namespace Hd
open PySem PySem.Spec PyProof.Rows L2 TL NumText
theorem rd_head {l : List Nat} {r : List (List Nat)} {k : Nat} (h : wrH (wds l) = some k) : rdL (l :: r) = .bad 1 k := by
  show (match wrH (wds l) with | some w => Rd.bad 1 w | none => _) = _
  rw [h]
theorem rdS_bad {n : Nat} (hn : n ≤ 10) : ∀ (ls : List (List Nat)) (ps : List (Nat × Nat)) (b : List Nat) (r : List (List Nat)) (i k : Nat) (acc : List (Nat × Nat)), ls.map wds = ps.map rowS → (∀ p ∈ ps, p.1 < n ∧ p.2 < n ∧ p.1 ≠ p.2) → i + ps.length < 20000 → wrS n (wds b) = some k →
    rdS n (ls ++ b :: r) i acc = .inl (i + ps.length + 2, k)
  | [], [], b, r, i, k, acc, _, _, hl, hb => by
    show (match (if 20000 ≤ i then some 1 else wrS n (wds b)) with | some w => _ | none => _) = _
    rw [if_neg (by simp at hl; omega), hb]
    rfl
  | [], _ :: _, _, _, _, _, _, e, _, _, _ => nomatch e
  | _ :: _, [], _, _, _, _, _, e, _, _, _ => nomatch e
  | l :: ls, p :: ps, b, r, i, k, acc, e, hp, hl, hb => by
    rw [List.map_cons, List.map_cons, List.cons.injEq] at e
    obtain ⟨e1, e2⟩ := e
    rw [List.length_cons] at hl
    obtain ⟨a1, a2, a3⟩ := hp p (List.mem_cons_self ..)
    show (match (if 20000 ≤ i then some 1 else wrS n (wds l)) with | some w => _ | none => _) = _
    rw [if_neg (by omega), e1, wrS_ok hn a1 a2 a3]
    show rdS n (ls ++ b :: r) (i + 1) _ = _
    rw [rdS_bad hn ls ps b r (i + 1) k _ e2 (fun q hq => hp q (List.mem_cons_of_mem _ hq)) (by omega) hb, List.length_cons]
    congr 2
    omega
theorem rd_line {ns : List Int} {ps : List (Nat × Nat)} {gs : List (List Nat)} {b : List Nat} {r : List (List Nat)} {k : Nat} (h : hpsB ns = true) (hp : ∀ p ∈ ps, p.1 < ns.length ∧ p.2 < ns.length ∧ p.1 ≠ p.2) (hl : ps.length < 20000)
    (e : gs.map wds = rowH (natsOf ns) :: ps.map rowS) (hb : wrS ns.length (wds b) = some k) : rdL (gs ++ b :: r) = .bad (gs.length + 1) k := by
  obtain ⟨h2, h6⟩ := hps_len h
  cases gs with
  | nil => cases e
  | cons g gs =>
    rw [List.map_cons, List.cons.injEq] at e
    obtain ⟨e1, e2⟩ := e
    have hn := natsOf_len ns
    have e3 : wrH (wds g) = none := by
      rw [e1]
      exact wrH_ok (nats_le (hps_range h)) (by omega) (by omega) (sum_nats h)
    have e4 : (valsL (wds g)).length = ns.length := by rw [e1, valsL_row, List.length_map, hn]
    have e5 := congrArg List.length e2
    rw [List.length_map, List.length_map] at e5
    show (match wrH (wds g) with | some w => Rd.bad 1 w | none => match rdS (valsL (wds g)).length (gs ++ b :: r) 0 [] with | .inl (a, b) => Rd.bad a b | .inr ps => .ok (valsL (wds g)) ps) = _
    rw [e3, e4]
    show (match rdS ns.length (gs ++ b :: r) 0 [] with | .inl (a, b) => Rd.bad a b | .inr ps => .ok (valsL (wds g)) ps) = _
    rw [rdS_bad (by omega) gs ps b r 0 k [] e2 hp (by omega) hb]
    show Rd.bad (0 + ps.length + 2) k = Rd.bad ((g :: gs).length + 1) k
    rw [List.length_cons, e5]
    congr 1
    omega
/-! ### the words that are no numbers -/
def badX (b : List Nat) : Prop := b = [120] ∨ b = [45, 49] ∨ b = [48, 49] ∨ b = [49, 46, 53] ∨ b = [43, 49] ∨ b = [48, 48] ∨ b = numL (10 ^ 30 + 1)
theorem bad_num {b : List Nat} (h : badX b) : isNm (10 ^ 30) b = false ∧ b ≠ [] ∧ 32 ∉ b ∧ 10 ∉ b ∧ b.length ≤ 31 := by
  rcases h with h | h | h | h | h | h | h <;> subst h <;> decide +kernel
theorem wrHs_bad : ∀ (g : List (List Nat)) (b : List Nat) (r : List (List Nat)) (i : Nat), (∀ w ∈ g, isNm (10 ^ 30) w = true) → i + g.length < 6 → isNm (10 ^ 30) b = false → wrHs (g ++ b :: r) i = some (i + g.length + 2)
  | [], b, r, i, _, _, hb => by
    show (if (decide (6 ≤ i) || !isNm (10 ^ 30) b) = true then some (i + 2) else _) = _
    rw [if_pos (by rw [hb]; simp)]
    rfl
  | w :: g, b, r, i, hg, hl, hb => by
    rw [List.length_cons] at hl
    show (if (decide (6 ≤ i) || !isNm (10 ^ 30) w) = true then some (i + 2) else wrHs (g ++ b :: r) (i + 1)) = _
    rw [if_neg (by rw [hg w (List.mem_cons_self ..), decide_eq_false (by omega)]; simp), wrHs_bad g b r (i + 1) (fun v hv => hg v (List.mem_cons_of_mem _ hv)) (by omega) hb, List.length_cons]
    congr 1
    omega
theorem wrH_at {g : List (List Nat)} {b : List Nat} {r : List (List Nat)} (hg : ∀ w ∈ g, isNm (10 ^ 30) w = true) (hl : g.length < 6) (hb : isNm (10 ^ 30) b = false) : wrH (sHeaps :: (g ++ b :: r)) = some (g.length + 2) := by
  unfold wrH
  rw [if_neg (by simp)]
  show (match wrHs (g ++ b :: r) 0 with | some k => some k | none => _) = _
  rw [wrHs_bad g b r 0 hg (by omega) hb, Nat.zero_add]
theorem wrH_word {w : List Nat} {r : List (List Nat)} (h : w ≠ sHeaps) : wrH (w :: r) = some 1 := by
  unfold wrH
  rw [if_pos (.inl h)]
theorem wrH_one {w : List Nat} (h : isNm (10 ^ 30) w = true) : wrH [sHeaps, w] = some 3 := by
  unfold wrH
  rw [if_neg (by simp)]
  show (match wrHs [w] 0 with | some k => some k | none => _) = _
  have : wrHs [w] 0 = none := by
    show (if (decide (6 ≤ 0) || !isNm (10 ^ 30) w) = true then some 2 else none) = _
    rw [if_neg (by rw [h]; decide)]
  rw [this]
  rfl
/-! ### the heads -/
def z2 (n : Nat) : List Nat := (List.replicate n [32, 48]).flatten
theorem nm_row {nn : List Nat} (h : ∀ n ∈ nn, n ≤ 10 ^ 30) : ∀ w ∈ nn.map numL, isNm (10 ^ 30) w = true := fun w hw => by
  obtain ⟨n, hn, rfl⟩ := List.mem_map.mp hw
  exact isNm_num (.inl rfl) (h n hn)
theorem nm_sp {nn : List Nat} : ∀ w ∈ nn.map numL, w ≠ [] ∧ 32 ∉ w := fun w hw => by
  obtain ⟨n, hn, rfl⟩ := List.mem_map.mp hw
  exact ⟨numL_ne n, numL_free (.inl (by decide))⟩
theorem joinL_cons {S w : List Nat} {ws : List (List Nat)} (h : ws ≠ []) : joinL S (w :: ws) = w ++ (S ++ joinL S ws) := by
  cases ws with
  | nil => exact absurd rfl h
  | cons a r => rfl
theorem head_heap {nn : List Nat} (h : nn ≠ []) : wrH (wds ([104, 101, 97, 112, 32] ++ joinL [32] (nn.map numL))) = some 1 := by
  have e : [104, 101, 97, 112, 32] ++ joinL [32] (nn.map numL) = joinL [32] ([104, 101, 97, 112] :: nn.map numL) := by
    rw [joinL_cons (by simpa using h)]
    rfl
  rw [e, wds_join fun w hw => ?_]
  · exact wrH_word (by decide)
  · rcases List.mem_cons.mp hw with rfl | hw
    · decide
    · exact nm_sp w hw
theorem head_one {n : Nat} (h : n ≤ 10 ^ 30) : wrH (wds (sHeaps ++ [32] ++ numL n)) = some 3 := by
  have e : sHeaps ++ [32] ++ numL n = joinL [32] [sHeaps, numL n] := by
    rw [joinL_cons (by simp)]
    simp only [List.append_assoc]
    rfl
  rw [e, wds_join fun w hw => ?_]
  · exact wrH_one (isNm_num (.inl rfl) h)
  · rcases List.mem_cons.mp hw with rfl | hw
    · decide
    · have : w = numL n := by simpa using hw
      rw [this]
      exact ⟨numL_ne n, numL_free (.inl (by decide))⟩
theorem head_zeros {n : Nat} (h2 : 2 ≤ n) (h6 : n ≤ 6) : wrH (wds (sHeaps ++ z2 n)) = some (n + 1) := by
  have : n = 2 ∨ n = 3 ∨ n = 4 ∨ n = 5 ∨ n = 6 := by omega
  rcases this with e | e | e | e | e <;> subst e <;> decide +kernel
theorem head_bad {nn : List Nat} {b : List Nat} {k : Nat} (h : ∀ n ∈ nn, n ≤ 10 ^ 30) (h6 : nn.length ≤ 6) (hk : k < nn.length) (hb : badX b) :
    wrH (wds (joinL [32] (sHeaps :: ((nn.map numL).take k ++ [b] ++ (nn.map numL).drop (k + 1))))) = some (k + 2) := by
  obtain ⟨b1, b2, b3, _⟩ := bad_num hb
  rw [wds_join fun w hw => ?_]
  · have hl : ((nn.map numL).take k).length = k := by
      rw [List.length_take, List.length_map]
      omega
    have := wrH_at (g := (nn.map numL).take k) (b := b) (r := (nn.map numL).drop (k + 1)) (fun w hw => nm_row h w (List.mem_of_mem_take hw)) (by omega) b1
    rw [hl] at this
    rw [List.append_assoc]
    exact this
  · rcases List.mem_cons.mp hw with rfl | hw
    · decide
    · rcases List.mem_append.mp hw with hw | hw
      · rcases List.mem_append.mp hw with hw | hw
        · exact nm_sp w (List.mem_of_mem_take hw)
        · have : w = b := by simpa using hw
          rw [this]
          exact ⟨b2, b3⟩
      · exact nm_sp w (List.mem_of_mem_drop hw)
theorem join_free : ∀ ls : List (List Nat), (∀ l ∈ ls, 10 ∉ l) → 10 ∉ joinL [32] ls
  | [], _, h => nomatch h
  | [p], h, hm => h p (List.mem_singleton.mpr rfl) hm
  | p :: q :: r, h, hm => by
    have hm : 10 ∈ p ++ ([32] ++ joinL [32] (q :: r)) := hm
    rcases List.mem_append.mp hm with z | z
    · exact h p (List.mem_cons_self ..) z
    · rcases List.mem_append.mp z with z | z
      · revert z; decide
      · exact join_free (q :: r) (fun l hl => h l (List.mem_cons_of_mem _ hl)) z
theorem sum_le : ∀ (ys : List (List Nat)) (b : Nat), (∀ y ∈ ys, y.length ≤ b) → (ys.map (·.length)).sum ≤ b * ys.length
  | [], _, _ => Nat.zero_le _
  | y :: r, b, hb => by
    have h1 := sum_le r b fun z hz => hb z (List.mem_cons_of_mem _ hz)
    have h2 := hb y (List.mem_cons_self ..)
    rw [List.map_cons, List.sum_cons, List.length_cons, Nat.mul_succ]
    omega
theorem join_len {ls : List (List Nat)} {b n : Nat} (h : ∀ l ∈ ls, l.length ≤ b) (hn : ls.length ≤ n) : (joinL [32] ls).length ≤ (b + 1) * n := by
  have e1 := joinL_len [32] ls
  have e2 := sum_le ls b h
  have e3 : [32].length = 1 := rfl
  have e4 := Nat.mul_le_mul_left (b + 1) hn
  rw [e3, Nat.mul_one] at e1
  refine Nat.le_trans e1 (Nat.le_trans ?_ e4)
  rw [Nat.succ_mul]
  exact Nat.add_le_add_right e2 _
/-- what a spoilt first line must say -/
def HdOk (q : List Nat × Nat) : Prop := wrH (wds q.1) = some q.2 ∧ 10 ∉ q.1 ∧ q.1.length ≤ 300
theorem nm_len {nn : List Nat} (h : ∀ n ∈ nn, n ≤ 10 ^ 30) : ∀ w ∈ nn.map numL, w.length ≤ 31 ∧ 10 ∉ w := fun w hw => by
  obtain ⟨n, hn, rfl⟩ := List.mem_map.mp hw
  exact ⟨numL_len (by decide) (Nat.lt_of_le_of_lt (h n hn) (by decide)), numL_free (.inl (by decide))⟩
theorem not_app {l r : List Nat} (h1 : 10 ∉ l) (h2 : 10 ∉ r) : 10 ∉ l ++ r := fun z => (List.mem_append.mp z).elim h1 h2
theorem hk_heap {nn : List Nat} (h : ∀ n ∈ nn, n ≤ 10 ^ 30) (h2 : 2 ≤ nn.length) (h6 : nn.length ≤ 6) : HdOk ([104, 101, 97, 112, 32] ++ joinL [32] (nn.map numL), 1) := by
  refine ⟨head_heap fun e => by rw [e, List.length_nil] at h2; omega, not_app (by decide) (join_free _ fun l hl => (nm_len h l hl).2), ?_⟩
  have := join_len (b := 31) (n := 6) (fun l hl => (nm_len h l hl).1) (by rw [List.length_map]; exact h6)
  rw [List.length_append]
  show 5 + _ ≤ 300
  omega
theorem hk_one {n : Nat} (h : n ≤ 10 ^ 30) : HdOk (sHeaps ++ [32] ++ numL n, 3) := by
  refine ⟨head_one h, not_app (by decide) (numL_free (.inl (by decide))), ?_⟩
  have : (numL n).length ≤ 31 := numL_len (by decide) (Nat.lt_of_le_of_lt h (by decide))
  rw [List.length_append]
  show 6 + _ ≤ 300
  omega
theorem hk_zeros {n : Nat} (h2 : 2 ≤ n) (h6 : n ≤ 6) : HdOk (sHeaps ++ z2 n, n + 1) := by
  refine ⟨head_zeros h2 h6, ?_⟩
  have : n = 2 ∨ n = 3 ∨ n = 4 ∨ n = 5 ∨ n = 6 := by omega
  rcases this with e | e | e | e | e <;> subst e <;> decide
theorem hk_bad {nn : List Nat} {b : List Nat} {k : Nat} (h : ∀ n ∈ nn, n ≤ 10 ^ 30) (h6 : nn.length ≤ 6) (hk : k < nn.length) (hb : badX b) : HdOk (joinL [32] (sHeaps :: ((nn.map numL).take k ++ [b] ++ (nn.map numL).drop (k + 1))), k + 2) := by
  obtain ⟨b1, b2, b3, b4, b5⟩ := bad_num hb
  have key : ∀ w ∈ sHeaps :: ((nn.map numL).take k ++ [b] ++ (nn.map numL).drop (k + 1)), w.length ≤ 31 ∧ 10 ∉ w := fun w hw => by
    rcases List.mem_cons.mp hw with rfl | hw
    · decide
    · rcases List.mem_append.mp hw with hw | hw
      · rcases List.mem_append.mp hw with hw | hw
        · exact nm_len h w (List.mem_of_mem_take hw)
        · have : w = b := by simpa using hw
          rw [this]
          exact ⟨b5, b4⟩
      · exact nm_len h w (List.mem_of_mem_drop hw)
  refine ⟨head_bad h h6 hk hb, join_free _ fun l hl => (key l hl).2, ?_⟩
  have := join_len (b := 31) (n := 7) (fun l hl => (key l hl).1) (by
    rw [List.length_cons, List.length_append, List.length_append, List.length_take, List.length_drop, List.length_map]
    show min k nn.length + 1 + _ + 1 ≤ 7
    omega)
  show (joinL [32] (sHeaps :: ((nn.map numL).take k ++ [b] ++ (nn.map numL).drop (k + 1)))).length ≤ 300
  exact Nat.le_trans this (by decide)
theorem hk_const : HdOk (sHeaps, 2) ∧ HdOk ([], 1) ∧ HdOk (sStep ++ [32, 48, 32, 49], 1) ∧ HdOk (sHeaps ++ [32, 49] ++ z2 6, 8) ∧ HdOk (sHeaps ++ z2 7, 8) := by
  refine ⟨⟨?_, ?_, ?_⟩, ⟨?_, ?_, ?_⟩, ⟨?_, ?_, ?_⟩, ⟨?_, ?_, ?_⟩, ⟨?_, ?_, ?_⟩⟩ <;> decide +kernel
/-! ### the turns -/
def tnL (n : Nat) (b : List Nat) : List (List Nat × Nat) :=
  [(sStep ++ [115, 32, 48, 32, 49], 1), (sStep, 2), (sStep ++ [32, 48], 3), (sStep ++ [32, 48, 32, 48], 3), (sStep ++ [32, 49, 32, 49], 3), (sStep ++ [32, 48, 32, 49, 32, 49], 4)] ++
  [(sStep ++ [32] ++ numL n ++ [32, 48], 2), (sStep ++ [32, 48, 32] ++ numL n, 3), (sStep ++ [32] ++ b ++ [32, 48], 2)] ++
  [(sStep ++ [32, 48, 32, 120], 3), ([48, 32, 49], 1), (sStep ++ [32, 48, 32, 48, 49], 3), (sHeaps ++ [32, 49, 32, 50], 1)]
def tnB (n : Nat) (q : List Nat × Nat) : Bool := decide (wrS n (wds q.1) = some q.2) && decide (10 ∉ q.1) && decide (q.1.length ≤ 60)
theorem turns_bad {n : Nat} {b : List Nat} (h2 : 2 ≤ n) (h6 : n ≤ 6) (hb : badX b) : (tnL n b).all (tnB n) = true := by
  have : n = 2 ∨ n = 3 ∨ n = 4 ∨ n = 5 ∨ n = 6 := by omega
  rcases this with e | e | e | e | e <;> subst e <;> rcases hb with h | h | h | h | h | h | h <;> subst h <;> decide +kernel
theorem turn_more {n : Nat} {b : List Nat} (h2 : 2 ≤ n) (h6 : n ≤ 6) (hb : b = [49, 46, 53] ∨ b = [120]) : tnB n (sStep ++ [32, 49, 32] ++ b, 3) = true := by
  have : n = 2 ∨ n = 3 ∨ n = 4 ∨ n = 5 ∨ n = 6 := by omega
  rcases this with e | e | e | e | e <;> subst e <;> rcases hb with h | h <;> subst h <;> decide +kernel
theorem blank_bad (n : Nat) : wrS n (wds []) = some 1 ∧ wrS n (wds [32, 32, 32]) = some 1 := ⟨rfl, rfl⟩
end Hd
set_option maxHeartbeats 8000000
/-! The law's fault: the text's rows with one of them spoilt. -/
namespace Hd
open PySem PySem.Spec PyProof.Rows L2 TL NumText
/-- a pair of a text and a number, in a list of its own -/
abbrev Tx2 := Addr × Str × Nat
def row2 (q : Tx2) : HO := .lst [.str q.2.1, .int (q.2.2 : Int)]
structure Fx (K : PySem.W.Frag) (H0 : Hp) (h c R t0 : Addr) (s : List Int) (xs : List Str) (H : Hp) : Prop where
  d : DrawAt H h c
  kp : Kept h c H0 H
  tt : SqT K H t0 (s.map V.int)
  rr : H R = some (.lst (xs.map V.str))
  nh : R ≠ h
  nc : R ≠ c
section
variable {K : PySem.W.Frag} {H0 H H' : Hp} {h c R t0 L p : Addr} {s : List Int} {xs : List Str} {o : HO} {qs : List Tx2}
theorem Fx.new (f : Fx K H0 h c R t0 s xs H) (hp : H p = none) : Fx K H0 h c R t0 s xs (upd H p o) :=
  ⟨f.d.new hp, f.kp.new (f.kp.free f.d hp), Same.tup (Same.new hp) f.tt, by rw [upd_ne (ne_of_none f.rr hp)]; exact f.rr, f.nh, f.nc⟩
theorem Fx.draw (f : Fx K H0 h c R t0 s xs H) (D : DrawAt H' h c) (k : Kept h c H H') : Fx K H0 h c R t0 s xs H' :=
  ⟨D, f.kp.trans k, k.tup f.d f.tt, k _ _ f.rr f.nh f.nc, f.nh, f.nc⟩
theorem Fx.same (f : Fx K H0 h c R t0 s xs H) (e : Same H H') : Fx K H0 h c R t0 s xs H' :=
  ⟨f.d.same e, f.kp.trans (Kept.of e), Same.tup e f.tt, e _ _ f.rr, f.nh, f.nc⟩
def Pend (h c : Addr) (H : Hp) (qs : List Tx2) : Prop := ∀ q ∈ qs, H q.1 = some (row2 q) ∧ q.1 ≠ h ∧ q.1 ≠ c
theorem Pend.same (f : Pend h c H qs) (e : Same H H') : Pend h c H' qs := fun q hq => ⟨e _ _ (f q hq).1, (f q hq).2⟩
theorem Pend.draw (f : Pend h c H qs) (k : Kept h c H H') : Pend h c H' qs := fun q hq => ⟨k _ _ (f q hq).1 (f q hq).2.1 (f q hq).2.2, (f q hq).2⟩
theorem Pend.add (f : Pend h c H qs) (D : DrawAt H h c) (hp : H p = none) {x : Str} {n : Nat} : Pend h c (upd H p (.lst [.str x, .int (n : Int)])) (qs ++ [(p, x, n)]) := fun q hq => by
  rcases List.mem_append.mp hq with hq | hq
  · exact ⟨Same.new hp _ _ (f q hq).1, (f q hq).2⟩
  · have e : q = (p, x, n) := by simpa using hq
    subst e
    exact ⟨upd_same, D.nots hp⟩
structure PwL (H0 : Hp) (h c : Addr) (H : Hp) (L : Addr) (qs : List Tx2) : Prop where
  ls : H L = some (.lst (qs.map fun q => V.ref q.1))
  n0 : H0 L = none
  nh : L ≠ h
  nc : L ≠ c
  st : Pend h c H qs
theorem PwL.same (f : PwL H0 h c H L qs) (e : Same H H') : PwL H0 h c H' L qs := ⟨e _ _ f.ls, f.n0, f.nh, f.nc, f.st.same e⟩
theorem PwL.draw (f : PwL H0 h c H L qs) (k : Kept h c H H') : PwL H0 h c H' L qs := ⟨k _ _ f.ls f.nh f.nc, f.n0, f.nh, f.nc, f.st.draw k⟩
theorem PwL.mk' (f : Pend h c H qs) (x : Fx K H0 h c R t0 s xs H) (hL : H L = none) : PwL H0 h c (upd H L (.lst (qs.map fun q => V.ref q.1))) L qs :=
  ⟨upd_same, x.kp.free x.d hL, (x.d.nots hL).1, (x.d.nots hL).2, f.same (Same.new hL)⟩
/-- the list at L has one pair more -/
theorem PwL.push (f : PwL H0 h c H L qs) (hq : qs ≠ []) (x : Fx K H0 h c R t0 s xs H) (hx : xs ≠ []) {p : Addr} {y : Str} {n : Nat} (hp : H p = some (.lst [.str y, .int (n : Int)])) (ph : p ≠ h) (pc : p ≠ c) :
    PwL H0 h c (upd H L (.lst ((qs.map fun q => V.ref q.1) ++ [.ref p]))) L (qs ++ [(p, y, n)]) ∧ Fx K H0 h c R t0 s xs (upd H L (.lst ((qs.map fun q => V.ref q.1) ++ [.ref p]))) := by
  obtain ⟨q0, qr, rfl⟩ := List.exists_cons_of_ne_nil hq
  obtain ⟨x0, xr, rfl⟩ := List.exists_cons_of_ne_nil hx
  have nL : ∀ (q : Tx2), H q.1 = some (row2 q) → q.1 ≠ L := fun q e => ne_of e f.ls (by intro z; cases z)
  refine ⟨⟨by rw [upd_same, List.map_append]; rfl, f.n0, f.nh, f.nc, fun q hq => ?_⟩, ?_⟩
  · rcases List.mem_append.mp hq with hq | hq
    · obtain ⟨e1, e2⟩ := f.st q hq
      exact ⟨by rw [upd_ne (nL q e1)]; exact e1, e2⟩
    · have e : q = (p, y, n) := by simpa using hq
      subst e
      exact ⟨by rw [upd_ne (nL (p, y, n) hp)]; exact hp, ph, pc⟩
  · have nR : R ≠ L := ne_of x.rr f.ls (by intro z; cases z)
    refine ⟨x.d.upd f.nh f.nc, ?_, tup_at f.ls x.tt, by rw [upd_ne nR]; exact x.rr, x.nh, x.nc⟩
    intro a u e n m
    rw [upd_ne (ne_of_none e f.n0)]
    exact x.kp a u e n m
end
theorem step2 {K : PySem.W.Frag} {H0 H : Hp} {h c R t0 p : Addr} {s : List Int} {xs : List Str} {qs : List Tx2} (X : Fx K H0 h c R t0 s xs H) (P : Pend h c H qs) (hp : H p = none) (x : Str) (n : Nat) :
    Fx K H0 h c R t0 s xs (upd H p (.lst [.str x, .int (n : Int)])) ∧ Pend h c (upd H p (.lst [.str x, .int (n : Int)])) (qs ++ [(p, x, n)]) ∧ Same H (upd H p (.lst [.str x, .int (n : Int)])) := ⟨X.new hp, P.add X.d hp, Same.new hp⟩
def spFault (K : PySem.W.Frag) : Sp := fun vs H Q _ => ∃ (h c R t0 : Addr) (pl : V) (s : List Int) (xs : List Str) (ps : List (Nat × Nat)), vs = [.ref h, .ref R, .ref t0, pl] ∧ Fx K H h c R t0 s xs H ∧ hpsB s = true ∧ xs.map tl = lineH (natsOf s) :: ps.map lineS ∧ (∀ p ∈ ps, p.1 < s.length ∧ p.2 < s.length ∧ p.1 ≠ p.2) ∧ ps.length ≤ 10 ∧
  ∀ (F R' : Addr) (zs : List Str) (l k : Nat) (H' : Hp), DrawAt H' h c → Kept h c H H' → H' F = some (.lst [.ref R', .int (l : Int), .int (k : Int)]) → H' R' = some (.lst (zs.map V.str)) → R' ≠ h → R' ≠ c → zs ≠ [] → zs.length ≤ 20 → (∀ z ∈ zs, 10 ∉ tl z ∧ z.length ≤ 300) → rdL (zs.map tl) = .bad l k → Q (.ref F) H'
theorem step2i {K : PySem.W.Frag} {H0 H : Hp} {h c R t0 p : Addr} {s : List Int} {xs : List Str} {qs : List Tx2} (X : Fx K H0 h c R t0 s xs H) (P : Pend h c H qs) (hp : H p = none) (x : Str) (z : Int) (n : Nat) (e : z = (n : Int)) :
    Fx K H0 h c R t0 s xs (upd H p (.lst [.str x, .int z])) ∧ Pend h c (upd H p (.lst [.str x, .int z])) (qs ++ [(p, x, n)]) ∧ Same H (upd H p (.lst [.str x, .int z])) := by
  subst e
  exact step2 X P hp x n
theorem cut_to {xs : List V} {k : Nat} (h : k ≤ xs.length) : cutV xs none (some (k : Int)) = xs.take k := by
  unfold cutV
  rw [HT.sIx_none, HT.sIx_nat, Nat.min_eq_left h, List.drop_zero, Nat.sub_zero]
theorem cut_from {xs : List V} {k : Nat} (h : k ≤ xs.length) : cutV xs (some (k : Int)) none = xs.drop k := by
  unfold cutV
  rw [HT.sIx_none, HT.sIx_nat, Nat.min_eq_left h]
  exact List.take_of_length_le (by rw [List.length_drop]; exact Nat.le_refl _)
theorem str_txt {a : String} {l : List Nat} (h : a.toList.map Char.toNat = l := by rfl) : tl (Str.ofString a) = l := by rw [tl_ofString]; exact h
theorem in_two_str {b x y : Str} (h : inV (.str b) [.str x, .str y] = true) : b = x ∨ b = y := by
  unfold inV at h
  simp only [List.any_cons, List.any_nil, Bool.or_false, Bool.or_eq_true] at h
  rcases h with h | h
  · exact .inl (beq_iff_eq.mp h).symm
  · exact .inr (beq_iff_eq.mp h).symm
theorem pick7 {x0 x1 x2 x3 x4 x5 x6 : Str} {n : Int} (h0 : 0 ≤ n) (h3 : n < 7) : ∃ z, atI [V.str x0, V.str x1, V.str x2, V.str x3, V.str x4, V.str x5, V.str x6] n = some (V.str z) ∧ (z = x0 ∨ z = x1 ∨ z = x2 ∨ z = x3 ∨ z = x4 ∨ z = x5 ∨ z = x6) := by
  have : n = 0 ∨ n = 1 ∨ n = 2 ∨ n = 3 ∨ n = 4 ∨ n = 5 ∨ n = 6 := by omega
  rcases this with e | e | e | e | e | e | e <;> subst e <;> exact ⟨_, rfl, by simp⟩
section
variable {P : Program} {w : World} {K : PySem.W.Frag} {mg : Str → Option Value} {base : Heap}
abbrev s_l_fault : Stmt := top 34
theorem sc_l_fault : FnScope ["_law_h", "_law_rows", "_law_heaps_here", "_law_plan", "_law_kind", "_law_size", "_law_bad", "_law_spot", "_law_words", "_law_heads", "_law_one", "_law_turns", "_law_x"] ["_law_h", "_law_rows", "_law_heaps_here", "_law_plan"] (defScope s_l_fault) := ⟨rfl, rfl, rfl, by decide +kernel, rfl, by decide +kernel, by decide +kernel⟩
theorem ok_l_fault {f : Addr} {fd : FuncData} (F : Fun K "_law_fault" "_law_fault" s_l_fault f fd) (T : Tp mg) (C_l_next : Cal P w K mg base CX0 1 "_law_next" ["_law_h", "_law_bound"] spNext) : FnOk P w K mg base CX0 2 f fd ["_law_h", "_law_rows", "_law_heaps_here", "_law_plan"] (spFault K) := by
  refine F.ok sc_l_fault (fun vs H Q E h => ?_) (fun cdv A outer s0 H vs Q E hr h => ?_)
  · obtain ⟨h, c, R, t0, pl, s, xs, ps, rfl, _⟩ := h
    rfl
  · obtain ⟨h, c, R, t0, pl, s, xs, ps, rfl, X0, hg, hxs, hps, hpl, k⟩ := h
    obtain ⟨hl2, hl6⟩ := hps_len hg
    have hrg := hps_range hg
    refine ⟨_, (pss_cons (ps_set (i := 4) sc_l_fault.nd rfl (Or.inl rfl) (pe_cal C_l_next hr rfl pass0 (pa_cons (pv 0) (pa_cons pe_int pa_nil))))
      (pss_cons (ps_set (i := 5) sc_l_fault.nd rfl (Or.inl rfl) (pe_callB (show CallR _ _ (rLenK K) from call_len_seq) (by rfl) T.len PySem.boot_len (pa_cons (pv 2) pa_nil)))
      (pss_cons (ps_set (i := 6) sc_l_fault.nd rfl (Or.inl rfl) (pe_ix ix_list (pe_lst (pa_cons pe_str (pa_cons pe_str (pa_cons pe_str (pa_cons pe_str (pa_cons pe_str (pa_cons pe_str (pa_cons (pe_callTy call_str_int (by rfl) T.str (by decide +kernel) (pa_cons (pe_op op_add (pe_op op_pow pe_int pe_int) pe_int) pa_nil)) pa_nil)))))))) (pe_cal C_l_next hr rfl pass0 (pa_cons (pv 0) (pa_cons pe_int pa_nil))) (fun _ _ => rfl)))
      (pss_cons (ps_if (pt_cmpR op_eq (pv 4) pe_int (nomark _)) (pss_cons (ps_set (i := 7) sc_l_fault.nd rfl (Or.inl rfl) (pe_cal C_l_next hr rfl pass0 (pa_cons (pv 0) (pa_cons (pv 5) pa_nil))))
      (pss_cons (ps_setLc (i := 8) (own := [("_law_x", 12)]) (g := gName 12) (by rfl) sc_l_fault.nd rfl rfl (sw_true rfl rfl rfl (by decide +kernel)) (pi_tup (pv 2)) (blkOk_by (own := [("_law_x", 12)]) (N := ["_law_h", "_law_rows", "_law_heaps_here", "_law_plan", "_law_kind", "_law_size", "_law_bad", "_law_spot", "_law_words", "_law_heads", "_law_one", "_law_turns", "_law_x"]) (sc := defScope s_l_fault) (by decide +kernel)) (fun _ _ _ _ _ => pg_name (i := 12) sc_l_fault.nd rfl (Or.inl rfl)) (fun _ _ _ _ _ => pts_nil) (fun _ _ _ _ _ => (pe_callTy call_str_int (by rfl) T.str (by decide +kernel) (pa_cons (pv 12) pa_nil))))
      (pss_cons (ps_set (i := 9) sc_l_fault.nd rfl (Or.inl rfl) (pe_lst (pa_cons (pe_lst (pa_cons (pe_op op_add_str pe_str (pe_join pe_str (pv 8))) (pa_cons pe_int pa_nil))) (pa_cons (pe_lst (pa_cons pe_str (pa_cons pe_int pa_nil))) (pa_cons (pe_lst (pa_cons (pe_op op_add_str pe_str (pe_ix ix_list (pv 8) pe_int (fun _ _ => rfl))) (pa_cons pe_int pa_nil))) (pa_cons (pe_lst (pa_cons pe_str (pa_cons pe_int pa_nil))) (pa_cons (pe_lst (pa_cons pe_str (pa_cons pe_int pa_nil))) pa_nil)))))))
      (pss_cons (ps_set (i := 9) sc_l_fault.nd rfl (Or.inl rfl) (pe_op op_cat (pv 9) (pe_lst (pa_cons (pe_lst (pa_cons (pe_op op_add_str pe_str (pe_op op_mulS pe_str (pv 5))) (pa_cons (pe_op op_add (pv 5) pe_int) pa_nil))) (pa_cons (pe_lst (pa_cons (pe_op op_add_str pe_str (pe_op op_mulS pe_str pe_int)) (pa_cons pe_int pa_nil))) (pa_cons (pe_lst (pa_cons (pe_op op_add_str pe_str (pe_op op_mulS pe_str pe_int)) (pa_cons pe_int pa_nil))) pa_nil))))))
      (pss_cons (ps_expr (pe_bm PySem.F.plainAttrs_list PySem.F.slot_list_append PySem.F.type_list_append mt_append (pv 9) (pa_cons (pe_lst (pa_cons (pe_join pe_str (pe_op op_cat (pe_op op_cat (pe_op op_cat (pe_lst (pa_cons pe_str pa_nil)) (pe_slice sl_list (pv 8) po_none (po_some (pv 7)))) (pe_lst (pa_cons (pv 6) pa_nil))) (pe_slice sl_list (pv 8) (po_some (pe_op op_add (pv 7) pe_int)) po_none))) (pa_cons (pe_op op_add (pv 7) pe_int) pa_nil))) pa_nil)))
      (pss_cons (ps_set (i := 10) sc_l_fault.nd rfl (Or.inl rfl) (pe_ix ix_list (pv 9) (pe_cal C_l_next hr rfl pass0 (pa_cons (pv 0) (pa_cons (pe_callB (show CallR _ _ (rLenK K) from call_len_seq) (by rfl) T.len PySem.boot_len (pa_cons (pv 9) pa_nil)) pa_nil))) (fun _ _ => rfl)))
      (pss_one (ps_ret (pe_lst (pa_cons (pe_op op_cat (pe_lst (pa_cons (pe_ix ix_list (pv 10) pe_int (fun _ _ => rfl)) pa_nil)) (pe_slice sl_list (pv 1) (po_some pe_int) po_none)) (pa_cons pe_int (pa_cons (pe_ix ix_list (pv 10) pe_int (fun _ _ => rfl)) pa_nil)))))))))))) pss_nil)
      (pss_cons (ps_set (i := 7) sc_l_fault.nd rfl (Or.inl rfl) (pe_op op_add pe_int (pe_cal C_l_next hr rfl pass0 (pa_cons (pv 0) (pa_cons (pe_callB (show CallR _ _ (rLenK K) from call_len_seq) (by rfl) T.len PySem.boot_len (pa_cons (pv 1) pa_nil)) pa_nil)))))
      (pss_cons (ps_if (pt_cmpR op_eq (pv 4) pe_int (nomark _)) (pss_one (ps_ret (pe_lst (pa_cons (pe_op op_cat (pe_op op_cat (pe_slice sl_list (pv 1) po_none (po_some (pv 7))) (pe_lst (pa_cons (pe_ix ix_list (pe_lst (pa_cons pe_str (pa_cons pe_str pa_nil))) (pe_cal C_l_next hr rfl pass0 (pa_cons (pv 0) (pa_cons pe_int pa_nil))) (fun _ _ => rfl)) pa_nil))) (pe_slice sl_list (pv 1) (po_some (pv 7)) po_none)) (pa_cons (pe_op op_add (pv 7) pe_int) (pa_cons pe_int pa_nil)))))) pss_nil)
      (pss_cons (ps_set (i := 11) sc_l_fault.nd rfl (Or.inl rfl) (pe_lst (pa_cons (pe_lst (pa_cons pe_str (pa_cons pe_int pa_nil))) (pa_cons (pe_lst (pa_cons pe_str (pa_cons pe_int pa_nil))) (pa_cons (pe_lst (pa_cons pe_str (pa_cons pe_int pa_nil))) (pa_cons (pe_lst (pa_cons pe_str (pa_cons pe_int pa_nil))) (pa_cons (pe_lst (pa_cons pe_str (pa_cons pe_int pa_nil))) (pa_cons (pe_lst (pa_cons pe_str (pa_cons pe_int pa_nil))) pa_nil))))))))
      (pss_cons (ps_set (i := 11) sc_l_fault.nd rfl (Or.inl rfl) (pe_op op_cat (pv 11) (pe_lst (pa_cons (pe_lst (pa_cons (pe_op op_add_str (pe_op op_add_str pe_str (pe_callTy call_str_int (by rfl) T.str (by decide +kernel) (pa_cons (pv 5) pa_nil))) pe_str) (pa_cons pe_int pa_nil))) (pa_cons (pe_lst (pa_cons (pe_op op_add_str pe_str (pe_callTy call_str_int (by rfl) T.str (by decide +kernel) (pa_cons (pv 5) pa_nil))) (pa_cons pe_int pa_nil))) (pa_cons (pe_lst (pa_cons (pe_op op_add_str (pe_op op_add_str pe_str (pv 6)) pe_str) (pa_cons pe_int pa_nil))) pa_nil))))))
      (pss_cons (ps_set (i := 11) sc_l_fault.nd rfl (Or.inl rfl) (pe_op op_cat (pv 11) (pe_lst (pa_cons (pe_lst (pa_cons pe_str (pa_cons pe_int pa_nil))) (pa_cons (pe_lst (pa_cons pe_str (pa_cons pe_int pa_nil))) (pa_cons (pe_lst (pa_cons pe_str (pa_cons pe_int pa_nil))) (pa_cons (pe_lst (pa_cons pe_str (pa_cons pe_int pa_nil))) pa_nil)))))))
      (pss_cutM (ps_if (pt_cmpR op_in_seq (pv 6) (pe_lst (pa_cons pe_str (pa_cons pe_str pa_nil))) (by rfl)) (pss_one (ps_expr (pe_bm PySem.F.plainAttrs_list PySem.F.slot_list_append PySem.F.type_list_append mt_append (pv 11) (pa_cons (pe_lst (pa_cons (pe_op op_add_str pe_str (pv 6)) (pa_cons pe_int pa_nil))) pa_nil)))) pss_nil)
      (pss_cons (ps_set (i := 10) sc_l_fault.nd rfl (Or.inl rfl) (pe_ix ix_list (pv 11) (pe_cal C_l_next hr rfl pass0 (pa_cons (pv 0) (pa_cons (pe_callB (show CallR _ _ (rLenK K) from call_len_seq) (by rfl) T.len PySem.boot_len (pa_cons (pv 11) pa_nil)) pa_nil))) (fun _ _ => rfl)))
      (pss_one (ps_ret (pe_lst (pa_cons (pe_op op_cat (pe_op op_cat (pe_slice sl_list (pv 1) po_none (po_some (pv 7))) (pe_lst (pa_cons (pe_ix ix_list (pv 10) pe_int (fun _ _ => rfl)) pa_nil))) (pe_slice sl_list (pv 1) (po_some (pv 7)) po_none)) (pa_cons (pe_op op_add (pv 7) pe_int) (pa_cons (pe_ix ix_list (pv 10) pe_int (fun _ _ => rfl)) pa_nil))))))))))))))))), ?_⟩
    refine ⟨_, rfl, h, c, 4, rfl, X0.d, by decide, by decide, fun kind H1 k0 k4 D1 K1 => ?_⟩
    have X1 := X0.draw D1 K1
    refine ⟨_, rfl, t0, _, rfl, .inr X1.tt, ?_⟩
    refine ⟨10, 30, rfl, rfl, ⟨by decide, by decide, by decide⟩, _, _, rfl, rfl, _, rfl, by decide, by show 7 ≤ sizeLine; decide, fun bl hbl => ?_⟩
    obtain ⟨nb1, nb2⟩ := D1.nots hbl
    refine ⟨_, rfl, h, c, 7, rfl, (X1.new hbl).d, by decide, by decide, fun n7 H2 n70 n77 D2 K2 => ?_⟩
    obtain ⟨bad, eb, hbad⟩ := pick7 (x0 := "x") (x1 := "-1") (x2 := "01") (x3 := "1.5") (x4 := "+1") (x5 := "00") (x6 := Str.ofString (toString ((10 : Int) ^ (30 : Int).toNat + 1))) n70 n77
    refine ⟨bl, _, _, _, rfl, rfl, SqL.of (K2 bl _ upd_same nb1 nb2), eb, ?_⟩
    have X2 := (X1.new hbl).draw D2 K2
    have hb : badX (tl bad) := by
      unfold badX
      rcases hbad with e | e | e | e | e | e | e <;> subst e
      · exact .inl (by rw [tl_ofString]; rfl)
      · exact .inr (.inl (by rw [tl_ofString]; rfl))
      · exact .inr (.inr (.inl (by rw [tl_ofString]; rfl)))
      · exact .inr (.inr (.inr (.inl (by rw [tl_ofString]; rfl))))
      · exact .inr (.inr (.inr (.inr (.inl (by rw [tl_ofString]; rfl)))))
      · exact .inr (.inr (.inr (.inr (.inr (.inl (by rw [tl_ofString]; rfl))))))
      · exact .inr (.inr (.inr (.inr (.inr (.inr (tl_num (10 ^ 30 + 1)))))))
    obtain ⟨bn, bne, b32, b10, b31⟩ := bad_num hb
    obtain ⟨kind, rfl⟩ := Int.eq_ofNat_of_zero_le k0
    clear hbad eb K2 D2 n70 n77 hbl nb1 nb2
    have hsl : (s.map V.int).length = s.length := List.length_map ..
    have hnl := natsOf_len s
    have hxl : xs.length = ps.length + 1 := by
      have e := congrArg List.length hxs
      rw [List.length_map, List.length_cons, List.length_map] at e
      exact e
    have hxne : xs ≠ [] := fun e => by rw [e] at hxl; cases hxl
    refine ⟨_, rfl, rfl, _, rfl, ?_⟩
    show (if decide (V.int (kind : Int) = V.int 0) = true then _ else _)
    have hws : ∀ x ∈ (natsOf s).map (fun n : Nat => Str.ofString (toString ((n : Nat) : Int))), x.length ≤ 31 := fun x hx => by
      obtain ⟨n, hn, rfl⟩ := List.mem_map.mp hx
      rw [len_tl, tl_num]
      exact numL_len (by decide) (Nat.lt_of_le_of_lt (nats_le hrg n hn) (by decide))
    have hwt : ((natsOf s).map (fun n : Nat => Str.ofString (toString ((n : Nat) : Int)))).map tl = (natsOf s).map numL := by
      rw [List.map_map]
      exact List.map_congr_left fun n _ => tl_num n
    have hTn : s.map V.int = (natsOf s).map fun n : Nat => V.int (n : Int) := by
      have e := congrArg (List.map V.int) (nats_cast hrg)
      rw [List.map_map] at e
      exact e.symm
    have hsum : ∀ (ys : List Str) (b : Nat), (∀ y ∈ ys, y.length ≤ b) → (ys.map (·.length)).sum ≤ b * ys.length := by
      intro ys b
      induction ys with
      | nil => intro _; exact Nat.zero_le _
      | cons y r ih =>
        intro hb
        have h1 := ih fun z hz => hb z (List.mem_cons_of_mem _ hz)
        have h2 := hb y (List.mem_cons_self ..)
        rw [List.map_cons, List.sum_cons, List.length_cons, Nat.mul_succ]
        omega
    have l1 : (" " : Str).length = 1 := by rw [len_tl, tl_sp]; rfl
    have l5 : ("heaps" : Str).length = 5 := by rw [len_tl, tl_heaps]; rfl
    have l6 : ("heaps " : Str).length = 6 := by rw [len_tl, tl_ofString]; rfl
    have l5' : ("heap " : Str).length = 5 := by rw [len_tl, tl_ofString]; rfl
    have l7 : ("heaps 1" : Str).length = 7 := by rw [len_tl, tl_ofString]; rfl
    have l2 : (" 0" : Str).length = 2 := by rw [len_tl, tl_ofString]; rfl
    have hrows : ∀ z ∈ xs, 10 ∉ tl z ∧ z.length ≤ 300 := fun z hz => by
      have hm : tl z ∈ lineH (natsOf s) :: ps.map lineS := by rw [← hxs]; exact List.mem_map.mpr ⟨z, hz, rfl⟩
      rw [len_tl]
      rcases List.mem_cons.mp hm with e | hm
      · rw [e]
        exact ⟨lineH_free _, Nat.le_trans (lineH_len (nats_le hrg) (by omega)) (by decide)⟩
      · obtain ⟨q, hq', e⟩ := List.mem_map.mp hm
        obtain ⟨a1, a2, _⟩ := hps q hq'
        rw [← e, lineS_len (by omega) (by omega)]
        exact ⟨lineS_free q, by decide⟩
    refine ite2 (fun hk => ?_) (fun hk => ?_)
    · refine ⟨_, rfl, _, rfl, h, c, _, rfl, X2.d, by rw [hsl]; omega, by rw [hsl]; omega, fun spot H3 q0 q1 D3 K3 => ?_⟩
      obtain ⟨spot, rfl⟩ := Int.eq_ofNat_of_zero_le q0
      have hspot : spot < (natsOf s).length := by rw [hsl] at q1; omega
      have X3 := X2.draw D3 K3
      have T3 : SqT K H3 t0 ((natsOf s).map fun n : Nat => V.int (n : Int)) := hTn ▸ X3.tt
      -- the words
      refine ⟨_, rfl, t0, rfl, ⟨_, T3⟩, fun W hW => lc_tup (K := K) (a := t0) (xs := (natsOf s).map fun n : Nat => V.int (n : Int)) (fun i H9 => H9 W = some (.lst ((((natsOf s).take i).map fun n : Nat => (Str.ofString (toString ((n : Nat) : Int)))).map V.str)) ∧ Same H3 H9) ⟨upd_same, Same.new hW⟩ (fun i H9 _ q => Same.tup q.2 T3) ?_ ?_⟩
      · rintro i x H9 hi ⟨hL, s9⟩
        rw [List.getElem?_map] at hi
        obtain ⟨n, hn', rfl⟩ := Option.map_eq_some_iff.mp hi
        refine ⟨rfl, _, rfl, _, rfl, num_small (nats_le hrg n (List.mem_of_getElem? hn')), _, hL, ?_, ?_, same_upd s9 hW⟩
        · rw [List.length_map, List.length_map, List.length_take, sizeLine_eq]
          omega
        · rw [upd_same, map_take hn', List.map_append]
          rfl
      rintro H4 ⟨hW4, s4⟩
      rw [List.length_map, List.take_length] at hW4
      have X4 := X3.same s4
      have nW := (X3.d.nots hW)
      generalize hws' : (natsOf s).map (fun n : Nat => Str.ofString (toString ((n : Nat) : Int))) = ws at hws hwt hW4
      have hwl : ws.length = s.length := by rw [← hws', List.length_map, hnl]
      have hwne : ws ≠ [] := fun e => by rw [e, List.length_nil] at hwl; omega
      obtain ⟨w0, wr, hw0⟩ := List.exists_cons_of_ne_nil hwne
      have hb0 := hsum ws 31 hws
      -- five heads
      refine ⟨⟨_, rfl⟩, _, rfl, _, W, ws, rfl, rfl, .inl (SqL.of hW4), by rw [l1]; show _ ≤ 16777216; omega, ?_⟩
      have hjl : (Txt.join " " ws).length ≤ 31 * 6 + 6 := by
        have e1 := joinL_len [32] (ws.map tl)
        have e2 : ((ws.map tl).map (·.length)).sum = (ws.map (·.length)).sum := by
          rw [List.map_map]
          exact congrArg List.sum (List.map_congr_left fun x _ => (len_tl x).symm)
        have e3 : [32].length = 1 := rfl
        rw [e2, e3, List.length_map] at e1
        rw [len_tl, join_eq, tl_join, tl_sp]
        omega
      refine ⟨_, _, rfl, rfl, by rw [l5', sizeLine_eq]; omega, by show 2 ≤ sizeLine; decide, fun a1 ha1 => ?_⟩
      obtain ⟨X5, P5, s5⟩ := step2 X4 (qs := []) (fun q hq => nomatch hq) ha1 ("heap " ++ Txt.join " " ws) 1
      have hW5 := s5 _ _ hW4
      generalize (upd H4 a1 _) = H5 at X5 P5 s5 hW5 ⊢
      refine ⟨by show 2 ≤ sizeLine; decide, fun a2 ha2 => ?_⟩
      obtain ⟨X6, P6, s6⟩ := step2 X5 P5 ha2 "heaps" 2
      have hW6 := s6 _ _ hW5
      generalize (upd H5 a2 _) = H6 at X6 P6 s6 hW6 ⊢
      refine ⟨_, rfl, W, _, 0, V.str w0, rfl, rfl, SqL.of hW6, by rw [hw0]; exact at_of (j := 0) rfl rfl, _, _, rfl, rfl, by rw [l6, sizeLine_eq]; have := hws w0 (by rw [hw0]; exact List.mem_cons_self ..); omega, by show 2 ≤ sizeLine; decide, fun a3 ha3 => ?_⟩
      obtain ⟨X7, P7, s7⟩ := step2 X6 P6 ha3 ("heaps " ++ w0) 3
      have hW7 := s7 _ _ hW6
      generalize (upd H6 a3 _) = H7 at X7 P7 s7 hW7 ⊢
      refine ⟨by show 2 ≤ sizeLine; decide, fun a4 ha4 => ?_⟩
      obtain ⟨X8, P8, s8⟩ := step2 X7 P7 ha4 "" 1
      have hW8 := s8 _ _ hW7
      generalize (upd H7 a4 _) = H8 at X8 P8 s8 hW8 ⊢
      refine ⟨by show 2 ≤ sizeLine; decide, fun a5 ha5 => ?_⟩
      obtain ⟨X9, P9, s9⟩ := step2 X8 P8 ha5 "step 0 1" 1
      have hW9 := s9 _ _ hW8
      generalize (upd H8 a5 _) = H9 at X9 P9 s9 hW9 ⊢
      refine ⟨by show 5 ≤ sizeLine; decide, fun L hL => ?_⟩
      have hLL : (upd H9 L (.lst [.ref a1, .ref a2, .ref a3, .ref a4, .ref a5])) L = some (.lst [.ref a1, .ref a2, .ref a3, .ref a4, .ref a5]) := upd_same
      have s10 : Same H9 (upd H9 L (.lst [.ref a1, .ref a2, .ref a3, .ref a4, .ref a5])) := Same.new hL
      have X10 := X9.same s10
      have P10 := P9.same s10
      have hW10 := s10 _ _ hW9
      generalize (upd H9 L (.lst [.ref a1, .ref a2, .ref a3, .ref a4, .ref a5])) = H10 at hLL X10 P10 hW10 ⊢
      clear X2 X3 X4 X5 X6 X7 X8 X9 P5 P6 P7 P8 P9 s4 s5 s6 s7 s8 s9 s10 hW hW4 hW5 hW6 hW7 hW8 hW9 ha1 ha2 ha3 ha4 ha5 hL
      -- three more
      refine ⟨_, rfl, _, rfl, " 0", (s.map V.int).length, rfl, rfl, by rw [hsl]; omega, by rw [hsl]; omega, by rw [l2]; decide, by rw [l2]; decide, fun u1 hu1 ht1 => ?_⟩
      rw [hsl] at hu1 ht1
      refine ⟨_, _, rfl, rfl, by rw [l5, hu1, l2, sizeLine_eq]; omega, _, rfl, _, _, rfl, rfl, by show 2 ≤ sizeLine; decide, fun a6 ha6 => ?_⟩
      obtain ⟨X11, P11, s11⟩ := step2i X10 P10 ha6 ("heaps" ++ u1) (((s.map V.int).length : Int) + 1) ((s.map V.int).length + 1) rfl
      have hW11 := s11 _ _ hW10
      have hL11 := s11 _ _ hLL
      show tCons _ _ _ (upd H10 a6 (.lst [.str ("heaps" ++ u1), .int (((s.map V.int).length : Int) + 1)])) _
      generalize (upd H10 a6 _) = H11 at X11 P11 s11 hW11 hL11 ⊢
      refine ⟨" 0", 6, rfl, rfl, by decide, by decide, by rw [l2]; decide, by rw [l2]; decide, fun u2 hu2 ht2 => ?_⟩
      refine ⟨_, _, rfl, rfl, by rw [l7, hu2, l2, sizeLine_eq]; omega, by show 2 ≤ sizeLine; decide, fun a7 ha7 => ?_⟩
      obtain ⟨X12, P12, s12⟩ := step2 X11 P11 ha7 ("heaps 1" ++ u2) 8
      have hW12 := s12 _ _ hW11
      have hL12 := s12 _ _ hL11
      generalize (upd H11 a7 _) = H12 at X12 P12 s12 hW12 hL12 ⊢
      refine ⟨" 0", 7, rfl, rfl, by decide, by decide, by rw [l2]; decide, by rw [l2]; decide, fun u3 hu3 ht3 => ?_⟩
      refine ⟨_, _, rfl, rfl, by rw [l5, hu3, l2, sizeLine_eq]; omega, by show 2 ≤ sizeLine; decide, fun a8 ha8 => ?_⟩
      obtain ⟨X13, P13, s13⟩ := step2 X12 P12 ha8 ("heaps" ++ u3) 8
      have hW13 := s13 _ _ hW12
      have hL13 := s13 _ _ hL12
      generalize (upd H12 a8 _) = H13 at X13 P13 s13 hW13 hL13 ⊢
      refine ⟨by show 3 ≤ sizeLine; decide, fun L2 hL2 => ?_⟩
      refine ⟨L, L2, [.ref a1, .ref a2, .ref a3, .ref a4, .ref a5], [.ref a6, .ref a7, .ref a8], rfl, rfl, Same.new hL2 _ _ hL13, upd_same, by show 8 ≤ sizeLine; decide, fun L3 hL3 => ?_⟩
      have X14 := X13.new (o := .lst [.ref a6, .ref a7, .ref a8]) hL2
      have P14 := P13.same (Same.new (o := .lst [.ref a6, .ref a7, .ref a8]) hL2)
      have hW14 := Same.new (o := .lst [.ref a6, .ref a7, .ref a8]) hL2 _ _ hW13
      have W15 := PwL.mk' P14 X14 hL3
      have X15 := X14.new (o := .lst [.ref a1, .ref a2, .ref a3, .ref a4, .ref a5, .ref a6, .ref a7, .ref a8]) hL3
      have hW15 := Same.new (o := .lst [.ref a1, .ref a2, .ref a3, .ref a4, .ref a5, .ref a6, .ref a7, .ref a8]) hL3 _ _ hW14
      have W15 : PwL H h c (upd (upd H13 L2 (.lst [.ref a6, .ref a7, .ref a8])) L3 (.lst [.ref a1, .ref a2, .ref a3, .ref a4, .ref a5, .ref a6, .ref a7, .ref a8])) L3 [(a1, "heap " ++ Txt.join " " ws, 1), (a2, "heaps", 2), (a3, "heaps " ++ w0, 3), (a4, "", 1), (a5, "step 0 1", 1), (a6, "heaps" ++ u1, (s.map V.int).length + 1), (a7, "heaps 1" ++ u2, 8), (a8, "heaps" ++ u3, 8)] := W15
      show gName 9 (.ref L3) _ (upd (upd H13 L2 (.lst [.ref a6, .ref a7, .ref a8])) L3 (.lst [.ref a1, .ref a2, .ref a3, .ref a4, .ref a5, .ref a6, .ref a7, .ref a8])) _
      generalize (upd (upd H13 L2 (.lst [.ref a6, .ref a7, .ref a8])) L3 (.lst [.ref a1, .ref a2, .ref a3, .ref a4, .ref a5, .ref a6, .ref a7, .ref a8])) = H15 at W15 X15 hW15 ⊢
      clear X10 X11 X12 X13 X14 P10 P11 P12 P13 P14 s11 s12 s13 hW10 hW11 hW12 hW13 hW14 hLL hL11 hL12 hL13 ha6 ha7 ha8 hL2 hL3
      -- the ninth
      refine ⟨_, rfl, .inl ⟨rfl, _, SqL.of W15.ls⟩, ⟨_, rfl⟩, by show 1 ≤ sizeLine; decide, fun b1 hb1 => ?_⟩
      refine ⟨_, rfl, _, rfl, _, rfl, W, _, rfl, SqL.of (Same.new hb1 _ _ hW15), fun b2 hb2 => ?_⟩
      refine ⟨b1, b2, _, _, rfl, rfl, Same.new hb2 _ _ upd_same, upd_same, ?_, fun b3 hb3 => ?_⟩
      · have := cutV_length (ws.map V.str) none (some (spot : Int))
        rw [List.length_map] at this
        rw [sizeLine_eq]
        show 1 + _ ≤ _
        omega
      refine ⟨_, rfl, by show 1 ≤ sizeLine; decide, fun b4 hb4 => ?_⟩
      have c1 : cutV (ws.map V.str) none (some (spot : Int)) = (ws.take spot).map V.str := by
        rw [cut_to (by rw [List.length_map, hwl, ← hnl]; omega), List.map_take]
      have c2 : cutV (ws.map V.str) (some ((spot : Int) + 1)) none = (ws.drop (spot + 1)).map V.str := by
        rw [show (spot : Int) + 1 = ((spot + 1 : Nat) : Int) from rfl, cut_from (by rw [List.length_map, hwl, ← hnl]; omega), List.map_drop]
      have t1 : Same H15 (upd H15 b1 (.lst [V.str "heaps"])) := Same.new hb1
      have t2 := t1.trans (Same.new (o := .lst (cutV (ws.map V.str) none (some (spot : Int)))) hb2)
      have t3 := t2.trans (Same.new (o := .lst ([V.str "heaps"] ++ cutV (ws.map V.str) none (some (spot : Int)))) hb3)
      have t4 := t3.trans (Same.new (o := .lst [V.str bad]) hb4)
      refine ⟨b3, b4, _, _, rfl, rfl, Same.new hb4 _ _ upd_same, upd_same, ?_, fun b5 hb5 => ?_⟩
      · have := cutV_length (ws.map V.str) none (some (spot : Int))
        rw [List.length_map] at this
        rw [sizeLine_eq, List.length_append]
        show 1 + _ + 1 ≤ _
        omega
      have t5 := t4.trans (Same.new (o := .lst ([V.str "heaps"] ++ cutV (ws.map V.str) none (some (spot : Int)) ++ [V.str bad])) hb5)
      refine ⟨_, rfl, _, rfl, _, _, rfl, rfl, _, rfl, W, _, rfl, SqL.of (t5 _ _ hW15), fun b6 hb6 => ?_⟩
      refine ⟨b5, b6, _, _, rfl, rfl, Same.new hb6 _ _ upd_same, upd_same, ?_, fun b7 hb7 => ?_⟩
      · have := cutV_length (ws.map V.str) none (some (spot : Int))
        have := cutV_length (ws.map V.str) (some ((spot : Int) + 1)) none
        rw [List.length_map] at *
        rw [sizeLine_eq, List.length_append, List.length_append]
        show 1 + _ + 1 + _ ≤ _
        omega
      have t6 := t5.trans (Same.new (o := .lst (cutV (ws.map V.str) (some ((spot : Int) + 1)) none)) hb6)
      have t7 := t6.trans (Same.new (o := .lst ([V.str "heaps"] ++ cutV (ws.map V.str) none (some (spot : Int)) ++ [V.str bad] ++ cutV (ws.map V.str) (some ((spot : Int) + 1)) none)) hb7)
      have hss : [V.str "heaps"] ++ cutV (ws.map V.str) none (some (spot : Int)) ++ [V.str bad] ++ cutV (ws.map V.str) (some ((spot : Int) + 1)) none = (("heaps" : Str) :: (ws.take spot ++ [bad] ++ ws.drop (spot + 1))).map V.str := by
        rw [c1, c2, List.map_cons, List.map_append, List.map_append]
        simp
      have hbl31 : bad.length ≤ 31 := by rw [len_tl]; exact b31
      have hss31 : ∀ y ∈ ((("heaps" : Str)) :: (ws.take spot ++ [bad] ++ ws.drop (spot + 1))), y.length ≤ 31 := fun y hy => by
        rcases List.mem_cons.mp hy with rfl | hy
        · rw [l5]; decide
        · rcases List.mem_append.mp hy with hy | hy
          · rcases List.mem_append.mp hy with hy | hy
            · exact hws y (List.mem_of_mem_take hy)
            · have : y = bad := by simpa using hy
              rw [this]; exact hbl31
          · exact hws y (List.mem_of_mem_drop hy)
      have hssl : ((("heaps" : Str)) :: (ws.take spot ++ [bad] ++ ws.drop (spot + 1))).length ≤ 7 := by
        rw [List.length_cons, List.length_append, List.length_append, List.length_take, List.length_drop]
        show min spot ws.length + 1 + _ + 1 ≤ 7
        omega
      have hsb := hsum _ 31 hss31
      refine ⟨_, b7, _, rfl, rfl, .inl (SqL.of (by rw [upd_same, hss])), by rw [l1]; show _ ≤ 16777216; omega, ?_⟩
      have htj : tl (Txt.join " " (("heaps" : Str) :: (ws.take spot ++ [bad] ++ ws.drop (spot + 1)))) = joinL [32] (sHeaps :: (((natsOf s).map numL).take spot ++ [tl bad] ++ ((natsOf s).map numL).drop (spot + 1))) := by
        rw [join_eq, tl_join, tl_sp, List.map_cons, List.map_append, List.map_append, List.map_take, List.map_drop, hwt, tl_heaps]
        rfl
      generalize Txt.join " " (("heaps" : Str) :: (ws.take spot ++ [bad] ++ ws.drop (spot + 1))) = xb at htj ⊢
      have X16 := X15.same t7
      have W16 := W15.same t7
      generalize (upd _ b7 _) = H16 at X16 W16 ⊢
      clear t1 t2 t3 t4 t5 t6 t7 hb1 hb2 hb3 hb4 hb5 hb6 hb7
      refine ⟨_, rfl, _, _, rfl, rfl, by show 2 ≤ sizeLine; decide, fun a9 ha9 => ?_⟩
      have t8 : Same H16 (upd H16 a9 (.lst [.str xb, .int ((spot : Int) + 2)])) := Same.new ha9
      have X17 := X16.same t8
      have W17 := W16.same t8
      have n9 := X16.d.nots ha9
      have e9 : (upd H16 a9 (.lst [.str xb, .int ((spot : Int) + 2)])) a9 = some (.lst [.str xb, .int ((spot + 2 : Nat) : Int)]) := upd_same
      generalize (upd H16 a9 (.lst [.str xb, .int ((spot : Int) + 2)])) = H17 at X17 W17 e9 ⊢
      refine ⟨L3, _, _, rfl, rfl, W17.ls, by show 8 < sizeLine; decide, ?_⟩
      obtain ⟨W18, X18⟩ := W17.push (by simp) X17 hxne e9 n9.1 n9.2
      have hok : ∀ q ∈ [(a1, ("heap " : Str) ++ Txt.join " " ws, 1), (a2, "heaps", 2), (a3, "heaps " ++ w0, 3), (a4, "", 1), (a5, "step 0 1", 1), (a6, "heaps" ++ u1, (s.map V.int).length + 1), (a7, "heaps 1" ++ u2, 8), (a8, "heaps" ++ u3, 8)] ++ [(a9, xb, spot + 2)], HdOk (tl q.2.1, q.2.2) := by
        obtain ⟨o1, o2, o3, o4, o5⟩ := hk_const
        have hn6 : (natsOf s).length ≤ 6 := by omega
        have hn2 : 2 ≤ (natsOf s).length := by omega
        have tz : tl (" 0" : Str) = [32, 48] := str_txt
        rw [tz] at ht1 ht2 ht3
        have p1 : HdOk (tl (("heap " : Str) ++ Txt.join " " ws), 1) := by
          rw [tl_append, join_eq, tl_join, tl_sp, hwt, show tl ("heap " : Str) = [104, 101, 97, 112, 32] from str_txt]
          exact hk_heap (nats_le hrg) hn2 hn6
        have p2 : HdOk (tl ("heaps" : Str), 2) := by rw [tl_heaps]; exact o1
        have p3 : HdOk (tl (("heaps " : Str) ++ w0), 3) := by
          cases hnn : natsOf s with
          | nil => rw [hnn] at hnl; rw [← hnl] at hl2; cases hl2
          | cons n nr =>
            rw [hnn, hw0] at hwt
            have e : tl w0 = numL n := (List.cons.inj hwt).1
            rw [tl_append, e, show tl ("heaps " : Str) = sHeaps ++ [32] from str_txt]
            exact hk_one (nats_le hrg n (by rw [hnn]; exact List.mem_cons_self ..))
        have p4 : HdOk (tl ("" : Str), 1) := by rw [tl_em]; exact o2
        have p5 : HdOk (tl ("step 0 1" : Str), 1) := by rw [show tl ("step 0 1" : Str) = sStep ++ [32, 48, 32, 49] from str_txt]; exact o3
        have p6 : HdOk (tl (("heaps" : Str) ++ u1), (s.map V.int).length + 1) := by
          rw [tl_append, tl_heaps, ht1, hsl]
          exact hk_zeros hl2 hl6
        have p7 : HdOk (tl (("heaps 1" : Str) ++ u2), 8) := by
          rw [tl_append, ht2, show tl ("heaps 1" : Str) = sHeaps ++ [32, 49] from str_txt]
          exact o4
        have p8 : HdOk (tl (("heaps" : Str) ++ u3), 8) := by
          rw [tl_append, ht3, tl_heaps]
          exact o5
        have p9 : HdOk (tl xb, spot + 2) := by
          rw [htj]
          exact hk_bad (nats_le hrg) hn6 hspot hb
        intro q hq
        simp only [List.cons_append, List.nil_append, List.mem_cons, List.mem_nil_iff, or_false] at hq
        rcases hq with rfl | rfl | rfl | rfl | rfl | rfl | rfl | rfl | rfl
        · exact p1
        · exact p2
        · exact p3
        · exact p4
        · exact p5
        · exact p6
        · exact p7
        · exact p8
        · exact p9
      have hqne : [(a1, ("heap " : Str) ++ Txt.join " " ws, 1), (a2, "heaps", 2), (a3, "heaps " ++ w0, 3), (a4, "", 1), (a5, "step 0 1", 1), (a6, "heaps" ++ u1, (s.map V.int).length + 1), (a7, "heaps 1" ++ u2, 8), (a8, "heaps" ++ u3, 8)] ++ [(a9, xb, spot + 2)] ≠ [] := by simp
      have hq9 : ([(a1, ("heap " : Str) ++ Txt.join " " ws, 1), (a2, "heaps", 2), (a3, "heaps " ++ w0, 3), (a4, "", 1), (a5, "step 0 1", 1), (a6, "heaps" ++ u1, (s.map V.int).length + 1), (a7, "heaps 1" ++ u2, 8), (a8, "heaps" ++ u3, 8)] ++ [(a9, xb, spot + 2)]).length ≤ 9 := Nat.le_refl 9
      generalize [(a1, ("heap " : Str) ++ Txt.join " " ws, 1), (a2, "heaps", 2), (a3, "heaps " ++ w0, 3), (a4, "", 1), (a5, "step 0 1", 1), (a6, "heaps" ++ u1, (s.map V.int).length + 1), (a7, "heaps 1" ++ u2, 8), (a8, "heaps" ++ u3, 8)] ++ [(a9, xb, spot + 2)] = qs at W18 hok hqne hq9
      generalize (upd H17 L3 _) = H18 at W18 X18 ⊢
      have hqp : 0 < qs.length := List.length_pos_iff.mpr hqne
      refine ⟨_, rfl, _, rfl, _, rfl, L3, _, rfl, .inl (SqL.of W18.ls), h, c, _, rfl, X18.d, by rw [List.length_map]; omega, by rw [List.length_map]; omega, fun j H19 j0 j1 D19 K19 => ?_⟩
      obtain ⟨j, rfl⟩ := Int.eq_ofNat_of_zero_le j0
      rw [List.length_map] at j1
      have hj : j < qs.length := by omega
      have X19 := X18.draw D19 K19
      have W19 := W18.draw K19
      refine ⟨L3, _, _, _, rfl, rfl, SqL.of W19.ls, at_of rfl (by rw [List.getElem?_map, List.getElem?_eq_getElem hj]; rfl), ?_⟩
      have hqm := List.getElem_mem hj
      obtain ⟨g1, g2, g3⟩ := hok qs[j] hqm
      obtain ⟨r1, r2, r3⟩ := W19.st qs[j] hqm
      refine ⟨_, rfl, qs[j].1, _, 0, .str qs[j].2.1, rfl, rfl, SqL.of r1, at_of (j := 0) rfl rfl, by show 1 ≤ sizeLine; decide, fun b1 hb1 => ?_⟩
      refine ⟨_, rfl, _, rfl, R, _, rfl, SqL.of (Same.new hb1 _ _ X19.rr), fun b2 hb2 => ?_⟩
      refine ⟨b1, b2, _, _, rfl, rfl, Same.new hb2 _ _ upd_same, upd_same, ?_, fun b3 hb3 => ?_⟩
      · have := cutV_length (xs.map V.str) (some 1) none
        rw [List.length_map] at this
        rw [sizeLine_eq]
        show 1 + _ ≤ _
        omega
      have t1 : Same H19 (upd H19 b1 (.lst [V.str qs[j].2.1])) := Same.new hb1
      have t2 := t1.trans (Same.new (o := .lst (cutV (xs.map V.str) (some 1) none)) hb2)
      have t3 := t2.trans (Same.new (o := .lst ([V.str qs[j].2.1] ++ cutV (xs.map V.str) (some 1) none)) hb3)
      refine ⟨_, rfl, qs[j].1, _, 1, .int (qs[j].2.2 : Int), rfl, rfl, SqL.of (t3 _ _ r1), at_of (j := 1) rfl rfl, by show 3 ≤ sizeLine; decide, fun FF hF => ?_⟩
      have t4 := t3.trans (Same.new (o := .lst [.ref b3, .int 1, .int (qs[j].2.2 : Int)]) hF)
      have X20 := X19.same t4
      have nb3 := (X19.same t2).d.nots hb3
      refine k FF b3 (qs[j].2.1 :: xs.tail) 1 qs[j].2.2 _ X20.d X20.kp upd_same (Same.new hF _ _ (by rw [upd_same, cut_tail, List.map_cons, List.map_tail]; rfl)) nb3.1 nb3.2 (by simp) (by rw [List.length_cons, List.length_tail]; omega) ?_ ?_
      · intro z hz
        rcases List.mem_cons.mp hz with rfl | hz
        · exact ⟨g2, by rw [len_tl]; exact g3⟩
        · exact hrows z (List.mem_of_mem_tail hz)
      · rw [List.map_cons]
        exact rd_head g1
    · refine ⟨_, rfl, _, rfl, R, _, rfl, .inl (SqL.of X2.rr), h, c, _, rfl, X2.d, by rw [List.length_map]; omega, by rw [List.length_map]; omega, fun j H3 j0 j1 D3 K3 => ⟨_, _, rfl, rfl, ?_⟩⟩
      obtain ⟨j, rfl⟩ := Int.eq_ofNat_of_zero_le j0
      rw [List.length_map] at j1
      have hj : 1 + j ≤ xs.length := by omega
      have X3 := X2.draw D3 K3
      have hgl : (xs.take (1 + j)).length = 1 + j := by rw [List.length_take]; omega
      have c1 : cutV (xs.map V.str) none (some (1 + (j : Int))) = (xs.take (1 + j)).map V.str := by
        rw [show (1 + (j : Int)) = ((1 + j : Nat) : Int) from rfl, cut_to (by rw [List.length_map]; exact hj), List.map_take]
      have c2 : cutV (xs.map V.str) (some (1 + (j : Int))) none = (xs.drop (1 + j)).map V.str := by
        rw [show (1 + (j : Int)) = ((1 + j : Nat) : Int) from rfl, cut_from (by rw [List.length_map]; exact hj), List.map_drop]
      -- a line that cannot stand, put among the rows
      have fin : ∀ (b : Str) (n : Nat), wrS s.length (wds (tl b)) = some n → 10 ∉ tl b → b.length ≤ 300 → (xs.take (1 + j) ++ [b] ++ xs.drop (1 + j) ≠ [] ∧ (xs.take (1 + j) ++ [b] ++ xs.drop (1 + j)).length ≤ 20 ∧ (∀ z ∈ xs.take (1 + j) ++ [b] ++ xs.drop (1 + j), 10 ∉ tl z ∧ z.length ≤ 300) ∧ rdL ((xs.take (1 + j) ++ [b] ++ xs.drop (1 + j)).map tl) = .bad (1 + j + 1) n) := by
        intro b n h1 h2 h3
        refine ⟨by simp, ?_, fun z hz => ?_, ?_⟩
        · rw [List.length_append, List.length_append, List.length_take, List.length_drop]
          show min (1 + j) xs.length + 1 + _ ≤ 20
          omega
        · rcases List.mem_append.mp hz with hz | hz
          · rcases List.mem_append.mp hz with hz | hz
            · exact hrows z (List.mem_of_mem_take hz)
            · have : z = b := by simpa using hz
              rw [this]
              exact ⟨h2, h3⟩
          · exact hrows z (List.mem_of_mem_drop hz)
        · have e : ((xs.take (1 + j)).map tl).map wds = rowH (natsOf s) :: (ps.take j).map rowS := by
            rw [List.map_take, hxs, Nat.add_comm 1 j, List.take_succ_cons, List.map_cons, wds_H, ← List.map_take, List.map_map]
            congr 1
            exact List.map_congr_left fun q _ => wds_S q
          have := rd_line (ns := s) (ps := ps.take j) (gs := (xs.take (1 + j)).map tl) (b := tl b) (r := (xs.drop (1 + j)).map tl) hg (fun p hp => hps p (List.mem_of_mem_take hp)) (by rw [List.length_take]; omega) e h1
          rw [List.length_map, hgl] at this
          rw [List.map_append, List.map_append, List.append_assoc]
          exact this
      refine ⟨_, rfl, rfl, _, rfl, ?_⟩
      show (if decide (V.int (kind : Int) = V.int 1) = true then _ else _)
      refine ite2 (fun hk1 => ?_) (fun hk1 => ?_)
      · refine ⟨_, rfl, _, rfl, _, rfl, R, _, rfl, SqL.of X3.rr, fun b1 hb1 => ?_⟩
        have X4 := X3.new (o := .lst (cutV (xs.map V.str) none (some (1 + (j : Int))))) hb1
        refine ⟨by show 2 ≤ sizeLine; decide, fun b2 hb2 => ?_⟩
        have n1 := X3.d.nots hb1
        have n2 := X4.d.nots hb2
        have X5 := X4.new (o := .lst [.str "", .str "   "]) hb2
        refine ⟨_, rfl, h, c, 2, rfl, X5.d, by decide, by decide, fun m H6 m0 m1 D6 K6 => ?_⟩
        have hz : ∃ z : Str, atI [V.str "", V.str "   "] m = some (V.str z) ∧ (z = "" ∨ z = "   ") := by
          have : m = 0 ∨ m = 1 := by omega
          rcases this with e | e <;> subst e <;> exact ⟨_, rfl, by simp⟩
        obtain ⟨z, ez, hz⟩ := hz
        have X6 := X5.draw D6 K6
        have eb1 := K6 b1 _ (Same.new hb2 _ _ upd_same) n1.1 n1.2
        refine ⟨b2, _, _, _, rfl, rfl, SqL.of (K6 b2 _ upd_same n2.1 n2.2), ez, by show 1 ≤ sizeLine; decide, fun b3 hb3 => ?_⟩
        have t1 : Same H6 (upd H6 b3 (.lst [V.str z])) := Same.new hb3
        refine ⟨b1, b3, _, _, rfl, rfl, t1 _ _ eb1, upd_same, ?_, fun b4 hb4 => ?_⟩
        · have := cutV_length (xs.map V.str) none (some (1 + (j : Int)))
          rw [List.length_map] at this
          rw [sizeLine_eq]
          show _ + 1 ≤ _
          omega
        have t2 := t1.trans (Same.new (o := .lst (cutV (xs.map V.str) none (some (1 + (j : Int))) ++ [V.str z])) hb4)
        refine ⟨_, rfl, _, rfl, _, rfl, R, _, rfl, SqL.of (t2 _ _ X6.rr), fun b5 hb5 => ?_⟩
        have t3 := t2.trans (Same.new (o := .lst (cutV (xs.map V.str) (some (1 + (j : Int))) none)) hb5)
        refine ⟨b4, b5, _, _, rfl, rfl, Same.new hb5 _ _ upd_same, upd_same, ?_, fun b6 hb6 => ?_⟩
        · have := cutV_length (xs.map V.str) none (some (1 + (j : Int)))
          have := cutV_length (xs.map V.str) (some (1 + (j : Int))) none
          rw [List.length_map] at *
          rw [sizeLine_eq, List.length_append]
          show _ + 1 + _ ≤ _
          omega
        have n6 := (X6.same t3).d.nots hb6
        have t4 := t3.trans (Same.new (o := .lst (cutV (xs.map V.str) none (some (1 + (j : Int))) ++ [V.str z] ++ cutV (xs.map V.str) (some (1 + (j : Int))) none)) hb6)
        refine ⟨_, rfl, _, _, rfl, rfl, by show 3 ≤ sizeLine; decide, fun FF hF => ?_⟩
        have t5 := t4.trans (Same.new (o := .lst [.ref b6, .int (1 + (j : Int) + 1), .int 1]) hF)
        have X7 := X6.same t5
        have hzb : wrS s.length (wds (tl z)) = some 1 ∧ 10 ∉ tl z ∧ z.length ≤ 300 := by
          rcases hz with e | e
          · rw [e, len_tl, tl_em]
            exact ⟨rfl, by decide, by decide⟩
          · rw [e, len_tl, show tl ("   " : Str) = [32, 32, 32] from str_txt]
            exact ⟨rfl, by decide, by decide⟩
        obtain ⟨f1, f2, f3, f4⟩ := fin z 1 hzb.1 hzb.2.1 hzb.2.2
        exact k FF b6 _ (1 + j + 1) 1 _ X7.d X7.kp upd_same (Same.new hF _ _ (by rw [upd_same, c1, c2, List.map_append, List.map_append]; rfl)) n6.1 n6.2 f1 f2 f3 f4
      · have k0' : tl ("step" : Str) = sStep := tl_step
        have m5 : ("step " : Str).length = 5 := by rw [len_tl, tl_ofString]; rfl
        have m7 : ("step 0 " : Str).length = 7 := by rw [len_tl, tl_ofString]; rfl
        have m7' : ("step 1 " : Str).length = 7 := by rw [len_tl, tl_ofString]; rfl
        have hbl31 : bad.length ≤ 31 := by rw [len_tl]; exact b31
        have hnl1 : (Str.ofString (toString (((s.map V.int).length : Nat) : Int))).length = 1 := by rw [len_tl, tl_num, numL_one (by rw [hsl]; omega)]
        have hns : (((s.map V.int).length : Nat) : Int).natAbs.log2 < 1920 := num_small (by rw [hsl]; exact Nat.le_trans hl6 (by decide))
        have ap : ∀ x y : Str, (x ++ y).length = x.length + y.length := fun x y => by rw [len_tl, tl_append, List.length_append, ← len_tl, ← len_tl]
        -- six turns
        refine ⟨by show 2 ≤ sizeLine; decide, fun a1 ha1 => ?_⟩
        obtain ⟨X10, P10, s10⟩ := step2 X3 (qs := []) (fun q hq => nomatch hq) ha1 "steps 0 1" 1
        generalize (upd H3 a1 _) = H10 at X10 P10 s10 ⊢
        refine ⟨by show 2 ≤ sizeLine; decide, fun a2 ha2 => ?_⟩
        obtain ⟨X11, P11, s11⟩ := step2 X10 P10 ha2 "step" 2
        generalize (upd H10 a2 _) = H11 at X11 P11 s11 ⊢
        refine ⟨by show 2 ≤ sizeLine; decide, fun a3 ha3 => ?_⟩
        obtain ⟨X12, P12, s12⟩ := step2 X11 P11 ha3 "step 0" 3
        generalize (upd H11 a3 _) = H12 at X12 P12 s12 ⊢
        refine ⟨by show 2 ≤ sizeLine; decide, fun a4 ha4 => ?_⟩
        obtain ⟨X13, P13, s13⟩ := step2 X12 P12 ha4 "step 0 0" 3
        generalize (upd H12 a4 _) = H13 at X13 P13 s13 ⊢
        refine ⟨by show 2 ≤ sizeLine; decide, fun a5 ha5 => ?_⟩
        obtain ⟨X14, P14, s14⟩ := step2 X13 P13 ha5 "step 1 1" 3
        generalize (upd H13 a5 _) = H14 at X14 P14 s14 ⊢
        refine ⟨by show 2 ≤ sizeLine; decide, fun a6 ha6 => ?_⟩
        obtain ⟨X15, P15, s15⟩ := step2 X14 P14 ha6 "step 0 1 1" 4
        generalize (upd H14 a6 _) = H15 at X15 P15 s15 ⊢
        refine ⟨by show 6 ≤ sizeLine; decide, fun L hL => ?_⟩
        have hLL : (upd H15 L (.lst [.ref a1, .ref a2, .ref a3, .ref a4, .ref a5, .ref a6])) L = some (.lst [.ref a1, .ref a2, .ref a3, .ref a4, .ref a5, .ref a6]) := upd_same
        have s16 : Same H15 (upd H15 L (.lst [.ref a1, .ref a2, .ref a3, .ref a4, .ref a5, .ref a6])) := Same.new hL
        have X16 := X15.same s16
        have P16 := P15.same s16
        generalize (upd H15 L (.lst [.ref a1, .ref a2, .ref a3, .ref a4, .ref a5, .ref a6])) = H16 at hLL X16 P16 ⊢
        -- three more
        refine ⟨_, rfl, _, rfl, _, rfl, hns, _, _, rfl, rfl, by rw [m5, hnl1, sizeLine_eq]; omega, _, _, rfl, rfl, by rw [ap, m5, hnl1, l2, sizeLine_eq]; omega, by show 2 ≤ sizeLine; decide, fun a7 ha7 => ?_⟩
        obtain ⟨X17, P17, s17⟩ := step2 X16 P16 ha7 ("step " ++ Str.ofString (toString (((s.map V.int).length : Nat) : Int)) ++ " 0") 2
        have hL17 := s17 _ _ hLL
        generalize (upd H16 a7 _) = H17 at X17 P17 s17 hL17 ⊢
        refine ⟨_, rfl, _, rfl, hns, _, _, rfl, rfl, by rw [m7, hnl1, sizeLine_eq]; omega, by show 2 ≤ sizeLine; decide, fun a8 ha8 => ?_⟩
        obtain ⟨X18, P18, s18⟩ := step2 X17 P17 ha8 ("step 0 " ++ Str.ofString (toString (((s.map V.int).length : Nat) : Int))) 3
        have hL18 := s18 _ _ hL17
        generalize (upd H17 a8 _) = H18 at X18 P18 s18 hL18 ⊢
        refine ⟨_, rfl, _, _, rfl, rfl, by rw [m5, sizeLine_eq]; omega, _, _, rfl, rfl, by rw [ap, m5, l2, sizeLine_eq]; omega, by show 2 ≤ sizeLine; decide, fun a9 ha9 => ?_⟩
        obtain ⟨X19, P19, s19⟩ := step2 X18 P18 ha9 ("step " ++ bad ++ " 0") 2
        have hL19 := s19 _ _ hL18
        generalize (upd H18 a9 _) = H19 at X19 P19 s19 hL19 ⊢
        refine ⟨by show 3 ≤ sizeLine; decide, fun L2 hL2 => ?_⟩
        refine ⟨L, L2, [.ref a1, .ref a2, .ref a3, .ref a4, .ref a5, .ref a6], [.ref a7, .ref a8, .ref a9], rfl, rfl, Same.new hL2 _ _ hL19, upd_same, by show 9 ≤ sizeLine; decide, fun L3 hL3 => ?_⟩
        have s20 := (Same.new (o := .lst [.ref a7, .ref a8, .ref a9]) hL2).trans (Same.new (o := .lst ([.ref a1, .ref a2, .ref a3, .ref a4, .ref a5, .ref a6] ++ [.ref a7, .ref a8, .ref a9])) hL3)
        have X20 := X19.same s20
        have P20 := P19.same s20
        have hL20 : (upd (upd H19 L2 (.lst [.ref a7, .ref a8, .ref a9])) L3 (.lst ([.ref a1, .ref a2, .ref a3, .ref a4, .ref a5, .ref a6] ++ [.ref a7, .ref a8, .ref a9]))) L3 = some (.lst ([.ref a1, .ref a2, .ref a3, .ref a4, .ref a5, .ref a6] ++ [.ref a7, .ref a8, .ref a9])) := upd_same
        generalize (upd (upd H19 L2 (.lst [.ref a7, .ref a8, .ref a9])) L3 (.lst ([.ref a1, .ref a2, .ref a3, .ref a4, .ref a5, .ref a6] ++ [.ref a7, .ref a8, .ref a9]))) = H20 at X20 P20 hL20 ⊢
        -- four more
        refine ⟨_, rfl, ?_⟩
        refine ⟨by show 2 ≤ sizeLine; decide, fun a10 ha10 => ?_⟩
        obtain ⟨X21, P21, s21⟩ := step2 X20 P20 ha10 "step 0 x" 3
        have hL21 := s21 _ _ hL20
        generalize (upd H20 a10 _) = H21 at X21 P21 s21 hL21 ⊢
        refine ⟨by show 2 ≤ sizeLine; decide, fun a11 ha11 => ?_⟩
        obtain ⟨X22, P22, s22⟩ := step2 X21 P21 ha11 "0 1" 1
        have hL22 := s22 _ _ hL21
        generalize (upd H21 a11 _) = H22 at X22 P22 s22 hL22 ⊢
        refine ⟨by show 2 ≤ sizeLine; decide, fun a12 ha12 => ?_⟩
        obtain ⟨X23, P23, s23⟩ := step2 X22 P22 ha12 "step 0 01" 3
        have hL23 := s23 _ _ hL22
        generalize (upd H22 a12 _) = H23 at X23 P23 s23 hL23 ⊢
        refine ⟨by show 2 ≤ sizeLine; decide, fun a13 ha13 => ?_⟩
        obtain ⟨X24, P24, s24⟩ := step2 X23 P23 ha13 "heaps 1 2" 1
        have hL24 := s24 _ _ hL23
        generalize (upd H23 a13 _) = H24 at X24 P24 s24 hL24 ⊢
        refine ⟨by show 4 ≤ sizeLine; decide, fun L4 hL4 => ?_⟩
        refine ⟨L3, L4, [.ref a1, .ref a2, .ref a3, .ref a4, .ref a5, .ref a6] ++ [.ref a7, .ref a8, .ref a9], [.ref a10, .ref a11, .ref a12, .ref a13], rfl, rfl, Same.new hL4 _ _ hL24, upd_same, by show 13 ≤ sizeLine; decide, fun L5 hL5 => ?_⟩
        have X25 := X24.new (o := .lst [.ref a10, .ref a11, .ref a12, .ref a13]) hL4
        have P25 := P24.same (Same.new (o := .lst [.ref a10, .ref a11, .ref a12, .ref a13]) hL4)
        have W26 := PwL.mk' P25 X25 hL5
        have X26 := X25.new (o := .lst ([.ref a1, .ref a2, .ref a3, .ref a4, .ref a5, .ref a6] ++ [.ref a7, .ref a8, .ref a9] ++ [.ref a10, .ref a11, .ref a12, .ref a13])) hL5
        have W26 : PwL H h c (upd (upd H24 L4 (.lst [.ref a10, .ref a11, .ref a12, .ref a13])) L5 (.lst ([.ref a1, .ref a2, .ref a3, .ref a4, .ref a5, .ref a6] ++ [.ref a7, .ref a8, .ref a9] ++ [.ref a10, .ref a11, .ref a12, .ref a13]))) L5 [(a1, ("steps 0 1" : Str), 1), (a2, ("step" : Str), 2), (a3, ("step 0" : Str), 3), (a4, ("step 0 0" : Str), 3), (a5, ("step 1 1" : Str), 3), (a6, ("step 0 1 1" : Str), 4), (a7, (("step " : Str) ++ Str.ofString (toString (((s.map V.int).length : Nat) : Int)) ++ " 0" : Str), 2), (a8, (("step 0 " : Str) ++ Str.ofString (toString (((s.map V.int).length : Nat) : Int)) : Str), 3), (a9, (("step " : Str) ++ bad ++ " 0" : Str), 2), (a10, ("step 0 x" : Str), 3), (a11, ("0 1" : Str), 1), (a12, ("step 0 01" : Str), 3), (a13, ("heaps 1 2" : Str), 1)] := W26
        show gName 11 (.ref L5) _ (upd (upd H24 L4 (.lst [.ref a10, .ref a11, .ref a12, .ref a13])) L5 (.lst ([.ref a1, .ref a2, .ref a3, .ref a4, .ref a5, .ref a6] ++ [.ref a7, .ref a8, .ref a9] ++ [.ref a10, .ref a11, .ref a12, .ref a13]))) _
        generalize (upd (upd H24 L4 (.lst [.ref a10, .ref a11, .ref a12, .ref a13])) L5 (.lst ([.ref a1, .ref a2, .ref a3, .ref a4, .ref a5, .ref a6] ++ [.ref a7, .ref a8, .ref a9] ++ [.ref a10, .ref a11, .ref a12, .ref a13]))) = H26 at W26 X26 ⊢
        have hok : ∀ q ∈ ([(a1, ("steps 0 1" : Str), 1), (a2, ("step" : Str), 2), (a3, ("step 0" : Str), 3), (a4, ("step 0 0" : Str), 3), (a5, ("step 1 1" : Str), 3), (a6, ("step 0 1 1" : Str), 4), (a7, (("step " : Str) ++ Str.ofString (toString (((s.map V.int).length : Nat) : Int)) ++ " 0" : Str), 2), (a8, (("step 0 " : Str) ++ Str.ofString (toString (((s.map V.int).length : Nat) : Int)) : Str), 3), (a9, (("step " : Str) ++ bad ++ " 0" : Str), 2), (a10, ("step 0 x" : Str), 3), (a11, ("0 1" : Str), 1), (a12, ("step 0 01" : Str), 3), (a13, ("heaps 1 2" : Str), 1)] : List Tx2), tnB s.length (tl q.2.1, q.2.2) = true := by
          have hb' := List.all_eq_true.mp (turns_bad hl2 hl6 hb)
          have hm : ∀ (x : Str) (l : List Nat) (n : Nat), tl x = l → (l, n) ∈ tnL s.length (tl bad) → tnB s.length (tl x, n) = true := fun x l n e hm => by
            subst e
            exact hb' _ hm
          intro q hq
          simp only [List.mem_cons, List.mem_nil_iff, or_false] at hq
          rcases hq with rfl | rfl | rfl | rfl | rfl | rfl | rfl | rfl | rfl | rfl | rfl | rfl | rfl
          · exact hm _ (sStep ++ [115, 32, 48, 32, 49]) _ (str_txt) (by simp [tnL])
          · exact hm _ (sStep) _ (str_txt) (by simp [tnL])
          · exact hm _ (sStep ++ [32, 48]) _ (str_txt) (by simp [tnL])
          · exact hm _ (sStep ++ [32, 48, 32, 48]) _ (str_txt) (by simp [tnL])
          · exact hm _ (sStep ++ [32, 49, 32, 49]) _ (str_txt) (by simp [tnL])
          · exact hm _ (sStep ++ [32, 48, 32, 49, 32, 49]) _ (str_txt) (by simp [tnL])
          · exact hm _ (sStep ++ [32] ++ numL s.length ++ [32, 48]) _ (by rw [tl_append, tl_append, tl_num, hsl, show tl ("step " : Str) = sStep ++ [32] from str_txt, show tl (" 0" : Str) = [32, 48] from str_txt]) (by simp [tnL])
          · exact hm _ (sStep ++ [32, 48, 32] ++ numL s.length) _ (by rw [tl_append, tl_num, hsl, show tl ("step 0 " : Str) = sStep ++ [32, 48, 32] from str_txt]) (by simp [tnL])
          · exact hm _ (sStep ++ [32] ++ tl bad ++ [32, 48]) _ (by rw [tl_append, tl_append, show tl ("step " : Str) = sStep ++ [32] from str_txt, show tl (" 0" : Str) = [32, 48] from str_txt]) (by simp [tnL])
          · exact hm _ (sStep ++ [32, 48, 32, 120]) _ (str_txt) (by simp [tnL])
          · exact hm _ ([48, 32, 49]) _ (str_txt) (by simp [tnL])
          · exact hm _ (sStep ++ [32, 48, 32, 48, 49]) _ (str_txt) (by simp [tnL])
          · exact hm _ (sHeaps ++ [32, 49, 32, 50]) _ (str_txt) (by simp [tnL])
        have hqne : ([(a1, ("steps 0 1" : Str), 1), (a2, ("step" : Str), 2), (a3, ("step 0" : Str), 3), (a4, ("step 0 0" : Str), 3), (a5, ("step 1 1" : Str), 3), (a6, ("step 0 1 1" : Str), 4), (a7, (("step " : Str) ++ Str.ofString (toString (((s.map V.int).length : Nat) : Int)) ++ " 0" : Str), 2), (a8, (("step 0 " : Str) ++ Str.ofString (toString (((s.map V.int).length : Nat) : Int)) : Str), 3), (a9, (("step " : Str) ++ bad ++ " 0" : Str), 2), (a10, ("step 0 x" : Str), 3), (a11, ("0 1" : Str), 1), (a12, ("step 0 01" : Str), 3), (a13, ("heaps 1 2" : Str), 1)] : List Tx2) ≠ [] := by simp
        have hq13 : ([(a1, ("steps 0 1" : Str), 1), (a2, ("step" : Str), 2), (a3, ("step 0" : Str), 3), (a4, ("step 0 0" : Str), 3), (a5, ("step 1 1" : Str), 3), (a6, ("step 0 1 1" : Str), 4), (a7, (("step " : Str) ++ Str.ofString (toString (((s.map V.int).length : Nat) : Int)) ++ " 0" : Str), 2), (a8, (("step 0 " : Str) ++ Str.ofString (toString (((s.map V.int).length : Nat) : Int)) : Str), 3), (a9, (("step " : Str) ++ bad ++ " 0" : Str), 2), (a10, ("step 0 x" : Str), 3), (a11, ("0 1" : Str), 1), (a12, ("step 0 01" : Str), 3), (a13, ("heaps 1 2" : Str), 1)] : List Tx2).length ≤ 13 := Nat.le_refl 13
        generalize ([(a1, ("steps 0 1" : Str), 1), (a2, ("step" : Str), 2), (a3, ("step 0" : Str), 3), (a4, ("step 0 0" : Str), 3), (a5, ("step 1 1" : Str), 3), (a6, ("step 0 1 1" : Str), 4), (a7, (("step " : Str) ++ Str.ofString (toString (((s.map V.int).length : Nat) : Int)) ++ " 0" : Str), 2), (a8, (("step 0 " : Str) ++ Str.ofString (toString (((s.map V.int).length : Nat) : Int)) : Str), 3), (a9, (("step " : Str) ++ bad ++ " 0" : Str), 2), (a10, ("step 0 x" : Str), 3), (a11, ("0 1" : Str), 1), (a12, ("step 0 01" : Str), 3), (a13, ("heaps 1 2" : Str), 1)] : List Tx2) = qs at W26 hok hqne hq13
        clear X10 X11 X12 X13 X14 X15 X16 X17 X18 X19 X20 X21 X22 X23 X24 X25 P10 P11 P12 P13 P14 P15 P16 P17 P18 P19 P20 P21 P22 P23 P24 P25 s10 s11 s12 s13 s14 s15 s16 s17 s18 s19 s20 s21 s22 s23 s24 hLL hL17 hL18 hL19 hL20 hL21 hL22 hL23 hL24 hL hL2 hL3 hL4 hL5
        refine ⟨fun σ H' => ∃ qs' : List Tx2, σ = [some (.ref h), some (.ref R), some (.ref t0), some pl, some (.int (kind : Int)), some (.int ((s.map V.int).length : Int)), some (.str bad), some (.int (1 + (j : Int))), none, none, none, some (.ref L5), none] ∧ PwL H h c H' L5 qs' ∧ Fx K H h c R t0 s xs H' ∧ qs' ≠ [] ∧ qs'.length ≤ 14 ∧ ∀ q ∈ qs', tnB s.length (tl q.2.1, q.2.2) = true, ?_, ?_⟩
        · refine ⟨_, rfl, by show 2 ≤ sizeLine; decide, fun bl hbl => ?_⟩
          refine ⟨bl, [.str "1.5", .str "x"], rfl, .inl (SqL.of upd_same), rfl, rfl, _, rfl, ?_⟩
          have t1 : Same H26 (upd H26 bl (.lst [V.str "1.5", V.str "x"])) := Same.new hbl
          have X27 := X26.same t1
          have W27 := W26.same t1
          generalize (upd H26 bl (.lst [V.str "1.5", V.str "x"])) = H27 at X27 W27 ⊢
          show (if inV (.str bad) [.str "1.5", .str "x"] = true then _ else _)
          refine ite2 (fun hin => ?_) (fun _ => ?_)
          · refine ⟨_, rfl, .inl ⟨rfl, _, SqL.of W27.ls⟩, _, rfl, _, _, rfl, rfl, by rw [m7', sizeLine_eq]; omega, by show 2 ≤ sizeLine; decide, fun a14 ha14 => ?_⟩
            have t2 : Same H27 (upd H27 a14 (.lst [.str ("step 1 " ++ bad), .int 3])) := Same.new ha14
            have X28 := X27.same t2
            have W28 := W27.same t2
            have n14 := X27.d.nots ha14
            have e14 : (upd H27 a14 (.lst [.str ("step 1 " ++ bad), .int 3])) a14 = some (.lst [.str ("step 1 " ++ bad), .int ((3 : Nat) : Int)]) := upd_same
            generalize (upd H27 a14 (.lst [.str ("step 1 " ++ bad), .int 3])) = H28 at X28 W28 e14 ⊢
            refine ⟨L5, _, _, rfl, rfl, W28.ls, by rw [List.length_map, sizeLine_eq]; omega, ?_⟩
            obtain ⟨W29, X29⟩ := W28.push hqne X28 hxne e14 n14.1 n14.2
            refine ⟨_, rfl, W29, X29, by simp, by rw [List.length_append]; show _ + 1 ≤ 14; omega, fun q hq => ?_⟩
            rcases List.mem_append.mp hq with hq | hq
            · exact hok q hq
            · have e : q = (a14, ("step 1 " : Str) ++ bad, 3) := by simpa using hq
              subst e
              show tnB s.length (tl (("step 1 " : Str) ++ bad), 3) = true
              rw [tl_append, show tl ("step 1 " : Str) = sStep ++ [32, 49, 32] from str_txt]
              exact turn_more hl2 hl6 ((in_two_str hin).imp (fun e => by rw [e]; exact str_txt) (fun e => by rw [e]; exact str_txt))
          · exact ⟨qs, rfl, W27, X27, hqne, by omega, hok⟩
        rintro σ H27 ⟨qs', rfl, W27, X27, hqne, hq14, hok⟩
        have hqp : 0 < qs'.length := List.length_pos_iff.mpr hqne
        refine ⟨_, rfl, _, rfl, _, rfl, L5, _, rfl, .inl (SqL.of W27.ls), h, c, _, rfl, X27.d, by rw [List.length_map]; omega, by rw [List.length_map]; omega, fun m H28 m0 m1 D28 K28 => ?_⟩
        obtain ⟨m, rfl⟩ := Int.eq_ofNat_of_zero_le m0
        rw [List.length_map] at m1
        have hm : m < qs'.length := by omega
        have X28 := X27.draw D28 K28
        have W28 := W27.draw K28
        refine ⟨L5, _, _, _, rfl, rfl, SqL.of W28.ls, at_of rfl (by rw [List.getElem?_map, List.getElem?_eq_getElem hm]; rfl), ?_⟩
        have hqm := List.getElem_mem hm
        have hb' := hok qs'[m] hqm
        unfold tnB at hb'
        simp only [Bool.and_eq_true, decide_eq_true_eq] at hb'
        obtain ⟨⟨g1, g2⟩, g3⟩ := hb'
        obtain ⟨r1, r2, r3⟩ := W28.st qs'[m] hqm
        refine ⟨_, rfl, _, rfl, _, rfl, R, _, rfl, SqL.of X28.rr, fun b1 hb1 => ?_⟩
        have t1 : Same H28 (upd H28 b1 (.lst (cutV (xs.map V.str) none (some (1 + (j : Int)))))) := Same.new hb1
        refine ⟨_, rfl, qs'[m].1, _, 0, .str qs'[m].2.1, rfl, rfl, SqL.of (t1 _ _ r1), at_of (j := 0) rfl rfl, by show 1 ≤ sizeLine; decide, fun b3 hb3 => ?_⟩
        have t2 := t1.trans (Same.new (o := .lst [V.str qs'[m].2.1]) hb3)
        refine ⟨b1, b3, _, _, rfl, rfl, Same.new hb3 _ _ upd_same, upd_same, ?_, fun b4 hb4 => ?_⟩
        · have := cutV_length (xs.map V.str) none (some (1 + (j : Int)))
          rw [List.length_map] at this
          rw [sizeLine_eq]
          show _ + 1 ≤ _
          omega
        have t3 := t2.trans (Same.new (o := .lst (cutV (xs.map V.str) none (some (1 + (j : Int))) ++ [V.str qs'[m].2.1])) hb4)
        refine ⟨_, rfl, _, rfl, _, rfl, R, _, rfl, SqL.of (t3 _ _ X28.rr), fun b5 hb5 => ?_⟩
        have t4 := t3.trans (Same.new (o := .lst (cutV (xs.map V.str) (some (1 + (j : Int))) none)) hb5)
        refine ⟨b4, b5, _, _, rfl, rfl, Same.new hb5 _ _ upd_same, upd_same, ?_, fun b6 hb6 => ?_⟩
        · have := cutV_length (xs.map V.str) none (some (1 + (j : Int)))
          have := cutV_length (xs.map V.str) (some (1 + (j : Int))) none
          rw [List.length_map] at *
          rw [sizeLine_eq, List.length_append]
          show _ + 1 + _ ≤ _
          omega
        have n6 := (X28.same t4).d.nots hb6
        have t5 := t4.trans (Same.new (o := .lst (cutV (xs.map V.str) none (some (1 + (j : Int))) ++ [V.str qs'[m].2.1] ++ cutV (xs.map V.str) (some (1 + (j : Int))) none)) hb6)
        refine ⟨_, rfl, _, _, rfl, rfl, _, rfl, qs'[m].1, _, 1, .int (qs'[m].2.2 : Int), rfl, rfl, SqL.of (t5 _ _ r1), at_of (j := 1) rfl rfl, by show 3 ≤ sizeLine; decide, fun FF hF => ?_⟩
        have t6 := t5.trans (Same.new (o := .lst [.ref b6, .int (1 + (j : Int) + 1), .int (qs'[m].2.2 : Int)]) hF)
        have X29 := X28.same t6
        obtain ⟨f1, f2, f3, f4⟩ := fin qs'[m].2.1 qs'[m].2.2 g1 g2 (by rw [len_tl]; exact Nat.le_trans g3 (by decide))
        exact k FF b6 _ (1 + j + 1) _ _ X29.d X29.kp upd_same (Same.new hF _ _ (by rw [upd_same, c1, c2, List.map_append, List.map_append]; rfl)) n6.1 n6.2 f1 f2 f3 f4
end
end Hd
set_option maxHeartbeats 8000000
/-! The law: a text with one fault is refused, and told where. -/
namespace Hd
open PySem PySem.Spec PyProof.Rows L2 TL NumText
theorem heaps_good {ns : List Int} (h : HeapsOk 2 6 ns) : hpsB ns = true := by
  obtain ⟨n, hn, hp⟩ := h.pos
  have : n ≤ ns.sum := by
    obtain ⟨k, hk, e⟩ := List.mem_iff_getElem.mp hn
    have := sum_one (i := k) (nn_of h.ge)
    rw [List.getD_eq_getElem?_getD, List.getElem?_eq_getElem hk] at this
    rw [← e]
    exact this
  unfold hpsB
  simp only [Bool.and_eq_true, decide_eq_true_eq, List.all_eq_true, List.mem_map]
  refine ⟨⟨h.lo, h.hi⟩, fun x ⟨y, hy, e⟩ => ?_, by omega⟩
  subst e
  unfold inR
  simp only [id, Bool.and_eq_true, decide_eq_true_eq]
  exact ⟨h.ge y hy, h.le y hy⟩
def spReadG (K : PySem.W.Frag) : Sp := fun vs H Q _ => ∃ (x : Str) (ns : List Int) (ps : List (Nat × Nat)), vs = [.str x] ∧ x.length + 2 < sizeLine ∧ rdL (lns (tl x)) = .ok ns ps ∧
  ∀ (p t u : Addr) (qs : List Srow) (H' : Hp), Same H H' → H' p = some (.tup [.ref t, .ref u]) → SqT K H' t (ns.map V.int) → PlanAt K H' u ns.length qs → qs.map (·.2) = ps → Q (.ref p) H'
theorem read_good {K : PySem.W.Frag} {C : Addr} {vs : List V} {H : Hp} {Q : VK} {E : XK} (h : spReadG K vs H Q E) : spRead K C vs H Q E0 := by
  obtain ⟨x, ns, ps, rfl, hx, hr, k⟩ := h
  refine ⟨x, rfl, hx, fun ns' ps' e => ?_, fun l w e => ?_⟩
  · rw [hr] at e
    cases e
    exact k
  · rw [hr] at e
    cases e
def dHP (ns : List Int) (ps : List (Nat × Nat)) : PyData := .tuple [dI ns, dP ps]
theorem dHP_ok (ns : List Int) (ps : List (Nat × Nat)) : SeqAt.shaped (dHP ns ps) = true := shaped_mk (by simp [dHP, PyData.canLay0, PyData.canLayAll0, dI_lay, dP_lay]) (by have := dI_deep ns; have := dP_deep ps; simp [dHP, PyData.depth, PyData.depthAll]; omega)
theorem dHP_self (ns : List Int) (ps : List (Nat × Nat)) : PyData.eqv (dHP ns ps) (dHP ns ps) = true := by
  simp only [dHP, PyData.eqv, PyData.eqvAll, dI_eqv, dP_eqv, decide_true, Bool.and_true, Bool.true_and]
def spLaw (K : PySem.W.Frag) : Sp := fun vs H Q _ => ∃ (a : Addr) (ns : List Int), vs = [.ref a] ∧ SqL K H a (ns.map V.int) ∧ ns.length ≤ 63 ∧ ∀ H', Q (.bl true) H'
/-- ' '.join(l), told by the frame alone -/
def rJn (K : PySem.W.Frag) : V → List V → Hp → VK → Prop := fun x xs H Q => ∃ a p, ∃ ys : List Str, x = .str a ∧ xs = [.ref p] ∧ (SqL K H p (ys.map V.str) ∨ SqT K H p (ys.map V.str)) ∧ (ys.map (·.length)).sum + ys.length * a.length ≤ 16777216 ∧ Q (.str (Txt.join a ys)) H
section
variable {P : Program} {w : World} {K : PySem.W.Frag} {mg : Str → Option Value} {base : Heap}
abbrev s_law : Stmt := top 35
theorem sc_law : FnScope ["_law_script", "_law_h", "_law_heaps_here", "_law_pairs_here", "_law_plan", "_law_text", "_law_rows", "_law_line", "_law_word", "_law_told", "e", "_law_k", "_law_row"] ["_law_script"] (defScope s_law) := ⟨rfl, rfl, rfl, by decide +kernel, rfl, by decide +kernel, by decide +kernel⟩
theorem ok_law {f C HE : Addr} {fd : FuncData} (F : Fun K "law" "law" s_law f fd) (T : Tp mg) (B : ItT P w K mg base C) (XF : XfC K C) (EC : ExcC K C) (gHE : mg "HeapError" = some (.ref HE)) (KO : PySem.W.kitOne K (.ref C) (.ref HE) = some true) (te : PySem.W.exmOne K (.ref C) (.ref C) = some true)
    (C_l_mix : Cal P w K mg base CX0 1 "_law_mix" ["_law_script", "_law_seed"] (spMix K)) (C_l_next : Cal P w K mg base CX0 1 "_law_next" ["_law_h", "_law_bound"] spNext) (C_l_heaps : Cal P w K mg base CX0 2 "_law_heaps" ["_law_h", "_law_least", "_law_most"] spHeaps)
    (C_l_pairs : Cal P w K mg base CX0 1 "_law_pairs" ["_law_size"] (spPairs K)) (C_l_fault : Cal P w K mg base CX0 2 "_law_fault" ["_law_h", "_law_rows", "_law_heaps_here", "_law_plan"] (spFault K)) (C_write_plan : Cal P w K mg base CX0 4 "write_plan" ["heaps", "plan"] (spWrite K)) (C_read_planX : Cal P w K mg base (L2.CX P w) 5 "read_plan" ["text"] (spRead K C)) (C_read_plan : Cal P w K mg base CX0 5 "read_plan" ["text"] (spReadG K)) :
    FnOk P w K mg base CX0 6 f fd ["_law_script"] (spLaw K) := by
  refine F.ok sc_law (fun vs H Q E h => ?_) (fun cdv A outer s0 H vs Q E hr h => ?_)
  · obtain ⟨a, ns, rfl, _⟩ := h
    rfl
  · obtain ⟨a, ns, rfl, hS, hlen, k⟩ := h
    have hu65 := units65 hr
    refine ⟨_, (pss_cons (ps_set (i := 1) sc_law.nd rfl (Or.inr rfl) (pe_cal C_l_mix hr rfl pass0 (pa_cons (pv 0) (pa_cons pe_int pa_nil))))
      (pss_cons (ps_set (i := 2) sc_law.nd rfl (Or.inl rfl) (pe_cal C_l_heaps hr rfl pass0 (pa_cons (pv 1) (pa_cons pe_int (pa_cons pe_int pa_nil)))))
      (pss_cons (ps_set (i := 3) sc_law.nd rfl (Or.inr rfl) (pe_cal C_l_pairs hr rfl pass0 (pa_cons (pe_callB (show CallR _ _ (rLenK K) from call_len_seq) (by rfl) T.len PySem.boot_len (pa_cons (pv 2) pa_nil)) pa_nil)))
      (pss_cons (ps_set (i := 4) sc_law.nd rfl (Or.inl rfl) (pe_callTy call_tuple_of (by rfl) T.tuple (by decide +kernel) (pa_cons (pe_lc (own := [("_law_k", 11)]) (g := gName 11) (by rfl) sc_law.nd (pi_range1 rfl T.range (pa_cons (pe_cal C_l_next hr rfl pass0 (pa_cons (pv 1) (pa_cons pe_int pa_nil))) pa_nil)) (blkOk_by (own := [("_law_k", 11)]) (N := ["_law_script", "_law_h", "_law_heaps_here", "_law_pairs_here", "_law_plan", "_law_text", "_law_rows", "_law_line", "_law_word", "_law_told", "e", "_law_k", "_law_row"]) (sc := defScope s_law) (by decide +kernel)) (fun _ _ _ _ _ => pg_name (i := 11) sc_law.nd rfl (Or.inl rfl)) (fun _ _ _ _ _ => pts_nil) (fun _ _ _ _ _ => (pe_ix (show IxR _ (rIxL K) from ix_list) (pv 3) (pe_cal C_l_next hr rfl pass0 (pa_cons (pv 1) (pa_cons (pe_callB (show CallR _ _ (rLenK K) from call_len_seq) (by rfl) T.len PySem.boot_len (pa_cons (pv 3) pa_nil)) pa_nil))) (fun _ _ => rfl)))) pa_nil)))
      (pss_cons (ps_set (i := 5) sc_law.nd rfl (Or.inl rfl) (pe_cal C_write_plan hr rfl pass0 (pa_cons (pv 2) (pa_cons (pv 4) pa_nil))))
      (pss_cons (ps_asg (pe_cal C_l_fault hr rfl pass0 (pa_cons (pv 1) (pa_cons (pe_split (pv 5) pe_str) (pa_cons (pv 2) (pa_cons (pv 4) pa_nil))))) (pg_lst rfl (pgs_cons (pg_name (i := 6) sc_law.nd rfl (Or.inl rfl)) (pgs_cons (pg_name (i := 7) sc_law.nd rfl (Or.inl rfl)) (pgs_cons (pg_name (i := 8) sc_law.nd rfl (Or.inl rfl)) pgs_nil)))))
      (pss_cons (ps_set (i := 9) sc_law.nd rfl (Or.inl rfl) pe_non)
      (pss_cons (ps_try_as (i := 10) (tb := fun W => tDrop (tCallS (spRead K C) (WE W) (tCons (tM1 (rJn K) (tC (.str "\n")) (tLc (iList K (tVar 6)) (gName 12) tYes (tVar 12) [12])) tNil))) (ts := fun a cls d => tAsg (tIf (tB (tCB (rIsX K C cls d a) (tCons (tVar 10) (tCons (tC (.ref HE)) tNil)))) (tTup (tCons (tXf a cls d C "line" (tVar 10)) (tCons (tXf a cls d C "word" (tVar 10)) tNil))) (tC .non)) (gName 9)) (Wout := fun _ _ _ _ => False) rfl rfl sc_law.nd rfl rfl ⟨rfl, by decide, Or.inl B.gC⟩ takes0
      (fun W pn xe tk _ => (pss_one (ps_expr (by exact (pe_calS C_read_planX hr rfl (fun σ => passAt tk σ) (by exact (pa_cons (pe_join pe_str (pe_lc (own := [("_law_row", 12)]) (g := gName 12) (by rfl) sc_law.nd (pi_list (pv 6)) (blkOk_by (own := [("_law_row", 12)]) (N := ["_law_script", "_law_h", "_law_heaps_here", "_law_pairs_here", "_law_plan", "_law_text", "_law_rows", "_law_line", "_law_word", "_law_told", "e", "_law_k", "_law_row"]) (sc := defScope s_law) (by decide +kernel)) (fun _ _ _ _ _ => pg_name (i := 12) sc_law.nd rfl (Or.inl rfl)) (fun _ _ _ _ _ => pts_nil) (fun _ _ _ _ _ => (pv 12)))) pa_nil)))))))
      (fun a oe cls d pn hz hf => (pss_one (ps_set (i := 9) sc_law.nd rfl (Or.inl rfl) (pe_ifExp (pt_val (pe_callB (call_isX EC hz hf) (by rfl) T.isinstance (by decide +kernel) (pa_cons (pv 10) (pa_cons (pe_glob (v := .ref HE) rfl gHE rfl) pa_nil)))) (pe_tup (pa_cons (pe_xf XF B.nl hz hf (pv 10)) (pa_cons (pe_xf XF B.nw hz hf (pv 10)) pa_nil))) pe_non)))))
      (pss_one (ps_ret (pe_and (pe_cmpR (op_eqD hr.units) (pv 9) (pe_tup (pa_cons (pv 7) (pa_cons (pv 8) pa_nil))) (nomark _)) (pe_one (pe_cmpR (op_eqD hr.units) (pe_cal C_read_plan hr rfl pass0 (pa_cons (pv 5) pa_nil)) (pe_tup (pa_cons (pv 2) (pa_cons (pv 4) pa_nil))) (nomark _)))))))))))))), ?_⟩
    refine ⟨_, rfl, a, ns, 8, rfl, hS, hlen, fun h c H1 nh nc s1 D1 => ?_⟩
    refine ⟨_, rfl, h, c, 2, 6, rfl, D1, by decide, by decide, by decide, fun t0 s H2 hok nt0 Z0 D2 k2 => ?_⟩
    have hg := heaps_good hok
    obtain ⟨hl2, hl6⟩ := hps_len hg
    have hrg := hps_range hg
    refine ⟨_, rfl, t0, _, rfl, .inr Z0.sq, s.length, by rw [List.length_map], hl6, fun pl qs H3 s3 hpl hP hq => ?_⟩
    have hql : qs.length = s.length * (s.length - 1) := by
      have e := congrArg List.length hq
      rw [List.length_map] at e
      rw [e, prs_len hl6]
    have hq2 : 2 ≤ qs.length := by
      rw [hql]
      exact Nat.mul_le_mul hl2 (show 1 ≤ s.length - 1 by omega)
    have hq36 : qs.length ≤ 36 := by
      rw [hql]
      have := Nat.mul_le_mul hl6 (show s.length - 1 ≤ 5 by omega)
      omega
    have D3 := D2.same s3
    obtain ⟨np1, np2⟩ := D2.nots hpl
    have T3 : SqT K H3 t0 (s.map V.int) := Same.tup s3 Z0.sq
    -- the plan
    refine ⟨_, rfl, h, c, 8, rfl, D3, by decide, by decide, fun N H4 N0 N13 D4 k4 => ?_⟩
    obtain ⟨N, rfl⟩ := Int.eq_ofNat_of_zero_le N0
    have T4 := k4.tup D3 T3
    have P4 : PrL K H4 pl s.length qs := ⟨k4 _ _ hP.ls np1 np2, fun p hp => ⟨k4.tup D3 (hP.st p hp).1, (hP.st p hp).2⟩⟩
    refine ⟨_, rfl, by omega, by omega, ?_⟩
    rw [Int.toNat_natCast]
    intro DD hDD
    obtain ⟨nd1, nd2⟩ := D4.nots hDD
    have ndp : DD ≠ pl := (ne_of_none P4.ls hDD).symm
    have P5 := P4.same (Same.new (o := .lst []) hDD)
    refine lc_range (lo := 0) (n := N) (fun i H6 => ∃ ms : List Srow, PrL K H6 DD s.length ms ∧ ms.length = i ∧ DrawAt H6 h c ∧ PrL K H6 pl s.length qs ∧ SqT K H6 t0 (s.map V.int)) ⟨[], ⟨upd_same, fun p hp => (nomatch hp)⟩, rfl, D4.new hDD, P5, Same.tup (Same.new hDD) T4⟩ ?_ ?_
    · rintro i H6 hi ⟨ms, hM, hml, D6, P6, T6⟩
      refine ⟨rfl, _, rfl, _, rfl, _, rfl, pl, _, rfl, .inl (SqL.of P6.ls), h, c, _, rfl, D6, by rw [List.length_map]; omega, by rw [List.length_map]; omega, fun n H7 n0 n1 D7 k7 => ?_⟩
      obtain ⟨n, rfl⟩ := Int.eq_ofNat_of_zero_le n0
      rw [List.length_map] at n1
      have hn : n < qs.length := by omega
      have P7 : PrL K H7 pl s.length qs := ⟨k7 _ _ P6.ls np1 np2, fun p hp => ⟨k7.tup D6 (P6.st p hp).1, (P6.st p hp).2⟩⟩
      have M7 : PrL K H7 DD s.length ms := ⟨k7 _ _ hM.ls nd1 nd2, fun p hp => ⟨k7.tup D6 (hM.st p hp).1, (hM.st p hp).2⟩⟩
      refine ⟨pl, _, _, _, rfl, rfl, SqL.of P7.ls, at_of rfl (by rw [List.getElem?_map, List.getElem?_eq_getElem hn]; rfl), _, M7.ls, by rw [List.length_map, sizeLine_eq]; omega, ?_⟩
      have q1 := P7.st qs[n] (List.getElem_mem hn)
      refine ⟨ms ++ [qs[n]], M7.more (qs := [qs[n]]) fun y hy => ?_, by rw [List.length_append, hml]; rfl, D7.upd nd1 nd2, ⟨?_, fun p hp => (P7.st p hp).at_ M7.ls⟩, tup_at M7.ls (k7.tup D6 T6)⟩
      · have e : y = qs[n] := by simpa using hy
        rw [e]
        exact q1
      · rw [upd_ne ndp.symm]
        exact P7.ls
    rintro H6 ⟨ms, hM, hml, D6, P6, T6⟩
    refine ⟨DD, _, rfl, .inl ⟨SqL.of hM.ls, fun u hu => ?_⟩⟩
    have s7 : Same H6 (upd H6 u (.tup (ms.map fun p => V.ref p.1))) := Same.new hu
    have Pl7 : PlanAt K (upd H6 u (.tup (ms.map fun p => V.ref p.1))) u s.length ms := ⟨SqT.of upd_same, fun p hp => (hM.st p hp).same s7⟩
    have T7 := Same.tup s7 T6
    have D7 := D6.same s7
    generalize (upd H6 u (.tup (ms.map fun p => V.ref p.1))) = H7 at Pl7 T7 D7 ⊢
    have hst : ∀ p ∈ ms.map (·.2), p.1 < s.length ∧ p.2 < s.length ∧ p.1 ≠ p.2 := fun p hp => by
      obtain ⟨z, hz, rfl⟩ := List.mem_map.mp hp
      exact (Pl7.st z hz).2
    have hm7 : ms.length ≤ 7 := by omega
    -- the text
    refine ⟨_, rfl, _, rfl, t0, u, s, ms, rfl, T7, hg, Pl7, by omega, fun x H8 s8 hx => ?_⟩
    have D8 := D7.same s8
    have T8 := Same.tup s8 T7
    have Pl8 := Pl7.same s8
    have hxl : x.length ≤ 400 := by
      rw [len_tl, hx]
      unfold textL
      have e1 := joinL_len [10] (lineH (natsOf s) :: (ms.map (·.2)).map lineS)
      have e2 := lineH_len (nats_le hrg) (by rw [natsOf_len]; exact hl6)
      have e3 : ∀ l : List (Nat × Nat), (∀ p ∈ l, p.1 < s.length ∧ p.2 < s.length ∧ p.1 ≠ p.2) → ((l.map lineS).map (·.length)).sum = 8 * l.length := by
        intro l
        induction l with
        | nil => intro _; rfl
        | cons p r ih =>
          intro hl'
          have h1 := ih fun q hq => hl' q (List.mem_cons_of_mem _ hq)
          obtain ⟨a1, a2, _⟩ := hl' p (List.mem_cons_self ..)
          rw [List.map_cons, List.map_cons, List.sum_cons, List.length_cons, lineS_len (by omega) (by omega), h1]
          omega
      have e4 := e3 _ hst
      have e5 : [10].length = 1 := rfl
      have e7 : (ms.map (·.2)).length = ms.length := List.length_map ..
      rw [List.map_cons, List.sum_cons, List.length_cons, e4, e5, List.length_map, List.length_map, Nat.mul_one] at e1
      omega
    have hnlc : (("\n" : Str).length == 0) = false := by rw [len_tl, tl_nl]; rfl
    have e1n : ("\n" : Str).length = 1 := by rw [len_tl, tl_nl]; rfl
    -- the rows and the fault
    refine ⟨_, rfl, _, rfl, ⟨_, rfl⟩, _, _, rfl, rfl, hnlc, by rw [sizeLine_eq]; omega, fun R hR => ?_⟩
    have es := split_spl x ("\n" : Str) (by rw [tl_nl]; simp) (kind_ok (by decide +kernel))
    rw [tl_nl, hx] at es
    have es : (Txt.split x ("\n" : Str)).map tl = lineH (natsOf s) :: (ms.map (·.2)).map lineS := by
      rw [es]
      exact lns_text s (ms.map (·.2))
    obtain ⟨nR1, nR2⟩ := D8.nots hR
    have s9 : Same H8 (upd H8 R (.lst ((Txt.split x ("\n" : Str)).map V.str))) := Same.new hR
    have hRR : (upd H8 R (.lst ((Txt.split x ("\n" : Str)).map V.str))) R = some (.lst ((Txt.split x ("\n" : Str)).map V.str)) := upd_same
    have D9 := D8.same s9
    have T9 := Same.tup s9 T8
    have Pl9 := Pl8.same s9
    generalize Txt.split x ("\n" : Str) = xs at es s9 hRR D9 T9 Pl9 ⊢
    generalize (upd H8 R (.lst (xs.map V.str))) = H9 at s9 hRR D9 T9 Pl9 ⊢
    refine ⟨_, rfl, _, rfl, h, c, R, t0, .ref u, s, xs, ms.map (·.2), rfl, ⟨D9, Kept.refl, T9, hRR, nR1, nR2⟩, hg, es, hst, by rw [List.length_map]; omega, fun FF R' zs l kk H10 D10 K10 eF eR nr1 nr2 zne zl zb hbad => ?_⟩
    refine ⟨FF, _, rfl, SqL.of eF, rfl, _, _, rfl, _, _, rfl, _, _, rfl, rfl, ?_⟩
    have T10 := K10.tup D9 T9
    have Pl10 : PlanAt K H10 u s.length ms := ⟨K10.tup D9 Pl9.tp, fun p hp => ⟨K10.tup D9 (Pl9.st p hp).1, (Pl9.st p hp).2⟩⟩
    -- read, and refused
    refine ⟨⟨_, rfl⟩, _, rfl, R', rfl, ⟨_, SqL.of eR⟩, fun DL hDL => lc_list (K := K) (a := R') (xs := zs.map V.str) (fun i H11 => H11 DL = some (.lst ((zs.take i).map V.str)) ∧ Same H10 H11) ⟨upd_same, Same.new hDL⟩ (fun i H11 _ q => SqL.of (q.2 _ _ eR)) ?_ ?_⟩
    · rintro i y H11 hy ⟨hD, s11⟩
      obtain ⟨z, hz, rfl⟩ := str_at hy
      refine ⟨rfl, _, rfl, _, hD, ?_, ?_, same_upd s11 hDL⟩
      · rw [List.length_map, List.length_take, sizeLine_eq]
        omega
      · rw [upd_same, map_take hz]
    rintro H11 ⟨hD, s11⟩
    rw [List.length_map, List.take_length] at hD
    have hsb : ∀ (ys : List Str) (b : Nat), (∀ y ∈ ys, y.length ≤ b) → (ys.map (·.length)).sum ≤ b * ys.length := by
      intro ys b
      induction ys with
      | nil => intro _; exact Nat.zero_le _
      | cons y r ih =>
        intro hb
        have h1 := ih fun z hz => hb z (List.mem_cons_of_mem _ hz)
        have h2 := hb y (List.mem_cons_self ..)
        rw [List.map_cons, List.sum_cons, List.length_cons, Nat.mul_succ]
        omega
    have hb1 := hsb zs 300 fun z hz => (zb z hz).2
    refine ⟨_, DL, zs, rfl, rfl, .inl (SqL.of hD), by rw [e1n]; omega, ?_⟩
    have hln : lns (tl (Txt.join "\n" zs)) = zs.map tl := by
      rw [join_eq, tl_join, tl_nl]
      refine spl_join (by simpa using zne) fun l hl => ?_
      obtain ⟨y, hy, rfl⟩ := List.mem_map.mp hl
      exact (zb y hy).1
    have hjl : (Txt.join "\n" zs).length ≤ 300 * 20 + 20 := by
      have e1 := joinL_len [10] (zs.map tl)
      have e2 : ((zs.map tl).map (·.length)).sum = (zs.map (·.length)).sum := by
        rw [List.map_map]
        exact congrArg List.sum (List.map_congr_left fun x _ => (len_tl x).symm)
      rw [e2, List.length_map] at e1
      rw [len_tl, join_eq, tl_join, tl_nl]
      have e5 : [10].length = 1 := rfl
      rw [e5] at e1
      omega
    have T11 := Same.tup s11 T10
    have Pl11 := Pl10.same s11
    have D11 := D10.same s11
    refine ⟨_, rfl, by rw [sizeLine_eq]; omega, fun ns' ps' e => ?_, fun l' w' e => ?_⟩
    · rw [hln, hbad] at e
      cases e
    rw [hln, hbad] at e
    obtain ⟨rfl, rfl⟩ := Rd.bad.inj e
    intro d H12 s12 hd
    refine ⟨true, te, fun _ e' he' => ?_, fun q => nomatch q⟩
    refine ⟨_, rfl, .ref HE, .ref HE, true, d, _, rfl, rfl, rfl, hd, fun u hu => hu, KO, _, rfl, ?_⟩
    refine ⟨_, rfl, rfl, rfl, d, _, _, rfl, hd, rfl, _, rfl, rfl, rfl, d, _, _, rfl, hd, rfl, by show 2 ≤ sizeLine; decide, fun tp htp => ?_⟩
    have s13 : Same H12 (upd H12 tp (.tup [.int (l : Int), .int (kk : Int)])) := Same.new htp
    have T13 := Same.tup (s12.trans s13) T11
    have Pl13 := Pl11.same (s12.trans s13)
    have e13 : (upd H12 tp (.tup [.int (l : Int), .int (kk : Int)])) tp = some (.tup [.int (l : Int), .int (kk : Int)]) := upd_same
    generalize (upd H12 tp (.tup [.int (l : Int), .int (kk : Int)])) = H13 at T13 Pl13 e13 ⊢
    refine ⟨_, rfl, _, rfl, _, rfl, by show 2 ≤ sizeLine; decide, fun tq htq => ?_⟩
    have s14 : Same H13 (upd H13 tq (.tup [.int (l : Int), .int (kk : Int)])) := Same.new htq
    have T14 := Same.tup s14 T13
    have Pl14 := Pl13.same s14
    refine ⟨dS (l, kk), dS (l, kk), dp_S (SqT.of (s14 _ _ e13)), dp_S (SqT.of upd_same), dS_ok _, dS_ok _, ?_⟩
    have hrd := rd_text hg hst (show (ms.map (·.2)).length ≤ 20000 by rw [List.length_map]; omega)
    rw [← hx] at hrd
    refine ⟨_, rfl, ifT (by rw [dS_eqv]; exact decide_eq_true rfl) ?_⟩
    refine ⟨_, rfl, x, s, _, rfl, by rw [sizeLine_eq]; omega, hrd, fun p t u' qs' H15 s15 hp hpt hpu hqs => ?_⟩
    refine ⟨_, rfl, _, rfl, by show 2 ≤ sizeLine; decide, fun tz htz => ?_⟩
    have s16 : Same H15 (upd H15 tz (.tup [.ref t0, .ref u])) := Same.new htz
    have s1516 := s15.trans s16
    refine ⟨dHP s (ms.map fun x : Srow => x.2), dHP s (ms.map fun x : Srow => x.2), .tup (SqT.of (s16 _ _ hp)) (.cons (dp_I (Same.tup s16 hpt)) (.cons (by rw [← hqs]; exact (hpu.same s16).dp) .nil)), .tup (SqT.of upd_same) (.cons (dp_I (Same.tup s1516 T14)) (.cons (Pl14.same s1516).dp .nil)), dHP_ok _ _, dHP_ok _ _, ?_⟩
    rw [dHP_self]
    exact k _
end
end Hd
set_option maxHeartbeats 4000000
namespace Hd
open PySem PySem.Spec PyProof.Rows L2
abbrev s_HeapError_init : Stmt := inClass (top 1) 0
theorem sup_mk {prog : Program} {K : PySem.W.Frag} {fI HE cc cda : Addr} {oc kV dc pm ct ccl cl : Value} {od an cdd cld : Option Addr} {osl ccs csl : Array (Option Value)} {vs : Array Value} {file : Str} {tf : Tok} {cdD : ClassData}
    (tI : PySem.W.typeIn K (.ref fI) = some (.type "function"))
    (lI : K.lookup fI = some ⟨oc, od, .func (PySem.W.fnX "__init__" "HeapError.__init__" (defArgs s_HeapError_init) (defBody s_HeapError_init) (defScope s_HeapError_init) [("__class__", cc)] .none kV dc pm an (.ref cda) ct), osl⟩)
    (cI : PySem.W.codeIn K (.ref cda) "HeapError.__init__" = true) (lcda : K.lookup cda = some ⟨ccl, cdd, .fields vs, ccs⟩) (hvs : vs[2]? = some (.str file tf)) (hfile : ((prog.main.file : Str) == file) = true)
    (lcc : K.lookup cc = some ⟨cl, cld, .cell (some (.ref HE)), csl⟩) (hD : PySem.W.clsIn K HE = some cdD) (zs : PySem.W.nsIn K mainGlobals "super" = some none) (thr : PySem.W.nsIn K cStatics "thirdparty.any" = some none)
    (top : (prog.main.scope.names.lookup ("super" : Str)).isSome = false) : SupDef prog K fI HE :=
  ⟨⟨oc, od, an, defArgs s_HeapError_init, "HeapError.__init__", .none, kV, dc, pm, ct, cc, cda, osl, _, _, _, _, _, _, ccl, cl, cdd, cld, vs, ccs, csl, file, tf, cdD, lI, cI, rfl, rfl, fun v => rfl, fun L => ⟨_, rfl⟩, lcda, hvs, hfile, lcc, hD⟩, tI, zs, thr, top⟩
end Hd
set_option maxHeartbeats 8000000
namespace Hd
open PySem PySem.Spec PyProof.Rows L2
theorem all_mk {l : PySem.W.OpenLaw} {w : World} {K : PySem.W.Frag} {h : Heap} {mg : Str → Option Value} {fa : Addr} (X : K.In h) (G : h.Ns mainGlobals mg) (hfa : mg "law" = some (.ref fa))
    {HE f_HI cc cda : Addr} {ocI kVI dcI pmI ctI ccl cl : Value} {odI anI cdd cld : Option Addr} {oslI ccs csl : Array (Option Value)} {vs : Array Value} {file : Str} {tf : Tok} {cdD : ClassData}
    {A_BadHeaps N_BadHeaps : Addr} {nm_BadHeaps q_BadHeaps : Str} {bs_BadHeaps sub_BadHeaps : List Value} {sn_BadHeaps : List Str} {ab_BadHeaps : Bool} {col_BadHeaps : Option Bool} {dd_BadHeaps : Option Addr} {m0_BadHeaps m1_BadHeaps m2_BadHeaps m3_BadHeaps m5_BadHeaps : Option Value}
    (x_BadHeaps : PySem.W.nsIn K mainGlobals "BadHeaps" = some (some (.ref A_BadHeaps)))
    (xL_BadHeaps : K.lookup A_BadHeaps = some (excClassObj nm_BadHeaps q_BadHeaps A_BadHeaps N_BadHeaps bs_BadHeaps [.ref HE, .type "ValueError", .type "Exception", .type "BaseException", .type "object"] true sn_BadHeaps sub_BadHeaps ab_BadHeaps col_BadHeaps dd_BadHeaps m0_BadHeaps m1_BadHeaps m2_BadHeaps m3_BadHeaps m5_BadHeaps "ValueError.__new__"))
    (iHI_BadHeaps : PySem.W.findIn K (.ref A_BadHeaps) "__init__" = some (some (.ref f_HI)))
    (tI : PySem.W.typeIn K (.ref f_HI) = some (.type "function"))
    (lI : K.lookup f_HI = some ⟨ocI, odI, .func (PySem.W.fnX "__init__" "HeapError.__init__" (defArgs s_HeapError_init) (defBody s_HeapError_init) (defScope s_HeapError_init) [("__class__", cc)] .none kVI dcI pmI anI (.ref cda) ctI), oslI⟩)
    (cI : PySem.W.codeIn K (.ref cda) "HeapError.__init__" = true)
    (lcda : K.lookup cda = some ⟨ccl, cdd, .fields vs, ccs⟩)
    (hvs : vs[2]? = some (.str file tf))
    (hfile : ((l.prog.main.file : Str) == file) = true)
    (lcc : K.lookup cc = some ⟨cl, cld, .cell (some (.ref HE)), csl⟩)
    (hD : PySem.W.clsIn K HE = some cdD)
    (thr : PySem.W.nsIn K cStatics "thirdparty.any" = some none)
    (topN : (l.prog.main.scope.names.lookup ("super" : Str)).isSome = false)
    (z_super : PySem.W.nsIn K mainGlobals "super" = some none)
    (supI_BadHeaps : PySem.W.ks_superIn K A_BadHeaps HE "__init__" = some (some (.builtin "ValueError.__init__")))
    (mroI_BadHeaps : PySem.W.mroIn K A_BadHeaps (.ref HE) = some true)
    (veI_BadHeaps : PySem.W.subIn K (.ref A_BadHeaps) (.type "ValueError") = some true)
    (xinI_BadHeaps : PySem.W.excInitIn K A_BadHeaps [.type "ValueError", .type "Exception", .type "BaseException", .type "object"] "ValueError.__new__" = true)
    (kC_BadHeaps : PySem.W.keepIn K (.ref A_BadHeaps) = true)
    (eC_BadHeaps : PySem.W.subIn K (.ref A_BadHeaps) (.type "BaseException") = some true)
    (tC_BadHeaps : PySem.W.typeIn K (.ref A_BadHeaps) = some (.type "type"))
    (iC_BadHeaps : PySem.W.isClsIn K A_BadHeaps = true)
    (sC_BadHeaps : PySem.W.subIn K (.ref A_BadHeaps) (.ref A_BadHeaps) = some true)
    {A_InvalidText N_InvalidText HE_InvalidText : Addr} {nm_InvalidText q_InvalidText : Str} {bs_InvalidText sub_InvalidText : List Value} {sn_InvalidText : List Str} {ab_InvalidText : Bool} {col_InvalidText : Option Bool} {dd_InvalidText : Option Addr} {m0_InvalidText m1_InvalidText m2_InvalidText m3_InvalidText m5_InvalidText : Option Value}
    (x_InvalidText : PySem.W.nsIn K mainGlobals "InvalidText" = some (some (.ref A_InvalidText)))
    (xL_InvalidText : K.lookup A_InvalidText = some (excClassObj nm_InvalidText q_InvalidText A_InvalidText N_InvalidText bs_InvalidText [.ref HE_InvalidText, .type "ValueError", .type "Exception", .type "BaseException", .type "object"] true sn_InvalidText sub_InvalidText ab_InvalidText col_InvalidText dd_InvalidText m0_InvalidText m1_InvalidText m2_InvalidText m3_InvalidText m5_InvalidText "ValueError.__new__"))
    (sa_InvalidText : PySem.W.findIn K (.ref A_InvalidText) "__setattr__" = some (some (.builtin "object.__setattr__")))
    (ga_InvalidText : PySem.W.findIn K (.ref A_InvalidText) "__getattribute__" = some (some (.builtin "BaseException.__getattribute__")))
    (gg_InvalidText : PySem.W.findIn K (.ref A_InvalidText) "__getattr__" = some none)
    (nb_InvalidText_line : PySem.W.findIn K (.ref A_InvalidText) "line" = some none)
    (nb_InvalidText_word : PySem.W.findIn K (.ref A_InvalidText) "word" = some none)
    (kC_InvalidText : PySem.W.keepIn K (.ref A_InvalidText) = true)
    (eC_InvalidText : PySem.W.subIn K (.ref A_InvalidText) (.type "BaseException") = some true)
    (tC_InvalidText : PySem.W.typeIn K (.ref A_InvalidText) = some (.type "type"))
    (hC_InvalidText : PySem.W.hasDictIn K A_InvalidText = true)
    (iC_InvalidText : PySem.W.isClsIn K A_InvalidText = true)
    (sC_InvalidText : PySem.W.subIn K (.ref A_InvalidText) (.ref A_InvalidText) = some true)
    (x_HeapError : PySem.W.nsIn K mainGlobals "HeapError" = some (some (.ref HE_InvalidText)))
    (ha_cls : PySem.W.findIn K (.ref A_InvalidText) "__class__" = some (some (.builtin "object.__class__")))
    (hn_cls : PySem.W.specialIn K (.builtin "object.__class__") "__get__" = some (some (.builtin "getset_descriptor.__get__")))
    (ht_cls : PySem.W.takesIn K (.builtin "object.__class__") = some true)
    (hm_cls : PySem.W.mroIn K A_InvalidText (.type "object") = some true)
    (ko_HE : PySem.W.kitOne K (.ref A_InvalidText) (.ref HE_InvalidText) = some true)
    {od_is_integer an_is_integer : Option Addr} {sl_is_integer : Array (Option Value)} {oc_is_integer kV_is_integer dc_is_integer pm_is_integer cd_is_integer ct_is_integer : Value} {f_is_integer : Addr}
    (a_is_integer : PySem.W.nsIn K mainGlobals "is_integer" = some (some (.ref f_is_integer)))
    (l_is_integer : K.lookup f_is_integer = some ⟨oc_is_integer, od_is_integer, .func (PySem.W.fnOf "is_integer" "is_integer" (defArgs s_is_integer) (defBody s_is_integer) (defScope s_is_integer) .none kV_is_integer dc_is_integer pm_is_integer an_is_integer cd_is_integer ct_is_integer), sl_is_integer⟩)
    (c_is_integer : PySem.W.codeIn K cd_is_integer "is_integer" = true) (k_is_integer : PySem.W.keepIn K (.ref f_is_integer) = true)
    {od_is_heaps an_is_heaps : Option Addr} {sl_is_heaps : Array (Option Value)} {oc_is_heaps kV_is_heaps dc_is_heaps pm_is_heaps cd_is_heaps ct_is_heaps : Value} {f_is_heaps : Addr}
    (a_is_heaps : PySem.W.nsIn K mainGlobals "is_heaps" = some (some (.ref f_is_heaps)))
    (l_is_heaps : K.lookup f_is_heaps = some ⟨oc_is_heaps, od_is_heaps, .func (PySem.W.fnOf "is_heaps" "is_heaps" (defArgs s_is_heaps) (defBody s_is_heaps) (defScope s_is_heaps) .none kV_is_heaps dc_is_heaps pm_is_heaps an_is_heaps cd_is_heaps ct_is_heaps), sl_is_heaps⟩)
    (c_is_heaps : PySem.W.codeIn K cd_is_heaps "is_heaps" = true) (k_is_heaps : PySem.W.keepIn K (.ref f_is_heaps) = true)
    {od_check_heaps an_check_heaps : Option Addr} {sl_check_heaps : Array (Option Value)} {oc_check_heaps kV_check_heaps dc_check_heaps pm_check_heaps cd_check_heaps ct_check_heaps : Value} {f_check_heaps : Addr}
    (a_check_heaps : PySem.W.nsIn K mainGlobals "check_heaps" = some (some (.ref f_check_heaps)))
    (l_check_heaps : K.lookup f_check_heaps = some ⟨oc_check_heaps, od_check_heaps, .func (PySem.W.fnOf "check_heaps" "check_heaps" (defArgs s_check_heaps) (defBody s_check_heaps) (defScope s_check_heaps) .none kV_check_heaps dc_check_heaps pm_check_heaps an_check_heaps cd_check_heaps ct_check_heaps), sl_check_heaps⟩)
    (c_check_heaps : PySem.W.codeIn K cd_check_heaps "check_heaps" = true) (k_check_heaps : PySem.W.keepIn K (.ref f_check_heaps) = true)
    {od_is_pair_of an_is_pair_of : Option Addr} {sl_is_pair_of : Array (Option Value)} {oc_is_pair_of kV_is_pair_of dc_is_pair_of pm_is_pair_of cd_is_pair_of ct_is_pair_of : Value} {f_is_pair_of : Addr}
    (a_is_pair_of : PySem.W.nsIn K mainGlobals "is_pair_of" = some (some (.ref f_is_pair_of)))
    (l_is_pair_of : K.lookup f_is_pair_of = some ⟨oc_is_pair_of, od_is_pair_of, .func (PySem.W.fnOf "is_pair_of" "is_pair_of" (defArgs s_is_pair_of) (defBody s_is_pair_of) (defScope s_is_pair_of) .none kV_is_pair_of dc_is_pair_of pm_is_pair_of an_is_pair_of cd_is_pair_of ct_is_pair_of), sl_is_pair_of⟩)
    (c_is_pair_of : PySem.W.codeIn K cd_is_pair_of "is_pair_of" = true) (k_is_pair_of : PySem.W.keepIn K (.ref f_is_pair_of) = true)
    {od_check_plan an_check_plan : Option Addr} {sl_check_plan : Array (Option Value)} {oc_check_plan kV_check_plan dc_check_plan pm_check_plan cd_check_plan ct_check_plan : Value} {f_check_plan : Addr}
    (a_check_plan : PySem.W.nsIn K mainGlobals "check_plan" = some (some (.ref f_check_plan)))
    (l_check_plan : K.lookup f_check_plan = some ⟨oc_check_plan, od_check_plan, .func (PySem.W.fnOf "check_plan" "check_plan" (defArgs s_check_plan) (defBody s_check_plan) (defScope s_check_plan) .none kV_check_plan dc_check_plan pm_check_plan an_check_plan cd_check_plan ct_check_plan), sl_check_plan⟩)
    (c_check_plan : PySem.W.codeIn K cd_check_plan "check_plan" = true) (k_check_plan : PySem.W.keepIn K (.ref f_check_plan) = true)
    {od_InvalidText_init an_InvalidText_init : Option Addr} {sl_InvalidText_init : Array (Option Value)} {oc_InvalidText_init kV_InvalidText_init dc_InvalidText_init pm_InvalidText_init cd_InvalidText_init ct_InvalidText_init : Value} {f_InvalidText_init : Addr}
    (a_InvalidText_init : PySem.W.findIn K (.ref A_InvalidText) "__init__" = some (some (.ref f_InvalidText_init)))
    (t_InvalidText_init : PySem.W.typeIn K (.ref f_InvalidText_init) = some (.type "function"))
    (l_InvalidText_init : K.lookup f_InvalidText_init = some ⟨oc_InvalidText_init, od_InvalidText_init, .func (PySem.W.fnOf "__init__" "InvalidText.__init__" (defArgs s_InvalidText_init) (defBody s_InvalidText_init) (defScope s_InvalidText_init) .none kV_InvalidText_init dc_InvalidText_init pm_InvalidText_init an_InvalidText_init cd_InvalidText_init ct_InvalidText_init), sl_InvalidText_init⟩)
    (c_InvalidText_init : PySem.W.codeIn K cd_InvalidText_init "InvalidText.__init__" = true) (k_InvalidText_init : PySem.W.keepIn K (.ref f_InvalidText_init) = true)
    {od_is_number an_is_number : Option Addr} {sl_is_number : Array (Option Value)} {oc_is_number kV_is_number dc_is_number pm_is_number cd_is_number ct_is_number : Value} {f_is_number : Addr}
    (a_is_number : PySem.W.nsIn K mainGlobals "is_number" = some (some (.ref f_is_number)))
    (l_is_number : K.lookup f_is_number = some ⟨oc_is_number, od_is_number, .func (PySem.W.fnOf "is_number" "is_number" (defArgs s_is_number) (defBody s_is_number) (defScope s_is_number) .none kV_is_number dc_is_number pm_is_number an_is_number cd_is_number ct_is_number), sl_is_number⟩)
    (c_is_number : PySem.W.codeIn K cd_is_number "is_number" = true) (k_is_number : PySem.W.keepIn K (.ref f_is_number) = true)
    {od_line_of an_line_of : Option Addr} {sl_line_of : Array (Option Value)} {oc_line_of kV_line_of dc_line_of pm_line_of cd_line_of ct_line_of : Value} {f_line_of : Addr}
    (a_line_of : PySem.W.nsIn K mainGlobals "line_of" = some (some (.ref f_line_of)))
    (l_line_of : K.lookup f_line_of = some ⟨oc_line_of, od_line_of, .func (PySem.W.fnOf "line_of" "line_of" (defArgs s_line_of) (defBody s_line_of) (defScope s_line_of) .none kV_line_of dc_line_of pm_line_of an_line_of cd_line_of ct_line_of), sl_line_of⟩)
    (c_line_of : PySem.W.codeIn K cd_line_of "line_of" = true) (k_line_of : PySem.W.keepIn K (.ref f_line_of) = true)
    {od_words_of an_words_of : Option Addr} {sl_words_of : Array (Option Value)} {oc_words_of kV_words_of dc_words_of pm_words_of cd_words_of ct_words_of : Value} {f_words_of : Addr}
    (a_words_of : PySem.W.nsIn K mainGlobals "words_of" = some (some (.ref f_words_of)))
    (l_words_of : K.lookup f_words_of = some ⟨oc_words_of, od_words_of, .func (PySem.W.fnOf "words_of" "words_of" (defArgs s_words_of) (defBody s_words_of) (defScope s_words_of) .none kV_words_of dc_words_of pm_words_of an_words_of cd_words_of ct_words_of), sl_words_of⟩)
    (c_words_of : PySem.W.codeIn K cd_words_of "words_of" = true) (k_words_of : PySem.W.keepIn K (.ref f_words_of) = true)
    {od_numbers_behind an_numbers_behind : Option Addr} {sl_numbers_behind : Array (Option Value)} {oc_numbers_behind kV_numbers_behind dc_numbers_behind pm_numbers_behind cd_numbers_behind ct_numbers_behind : Value} {f_numbers_behind : Addr}
    (a_numbers_behind : PySem.W.nsIn K mainGlobals "numbers_behind" = some (some (.ref f_numbers_behind)))
    (l_numbers_behind : K.lookup f_numbers_behind = some ⟨oc_numbers_behind, od_numbers_behind, .func (PySem.W.fnOf "numbers_behind" "numbers_behind" (defArgs s_numbers_behind) (defBody s_numbers_behind) (defScope s_numbers_behind) .none kV_numbers_behind dc_numbers_behind pm_numbers_behind an_numbers_behind cd_numbers_behind ct_numbers_behind), sl_numbers_behind⟩)
    (c_numbers_behind : PySem.W.codeIn K cd_numbers_behind "numbers_behind" = true) (k_numbers_behind : PySem.W.keepIn K (.ref f_numbers_behind) = true)
    {od_wrong_in_heaps an_wrong_in_heaps : Option Addr} {sl_wrong_in_heaps : Array (Option Value)} {oc_wrong_in_heaps kV_wrong_in_heaps dc_wrong_in_heaps pm_wrong_in_heaps cd_wrong_in_heaps ct_wrong_in_heaps : Value} {f_wrong_in_heaps : Addr}
    (a_wrong_in_heaps : PySem.W.nsIn K mainGlobals "wrong_in_heaps" = some (some (.ref f_wrong_in_heaps)))
    (l_wrong_in_heaps : K.lookup f_wrong_in_heaps = some ⟨oc_wrong_in_heaps, od_wrong_in_heaps, .func (PySem.W.fnOf "wrong_in_heaps" "wrong_in_heaps" (defArgs s_wrong_in_heaps) (defBody s_wrong_in_heaps) (defScope s_wrong_in_heaps) .none kV_wrong_in_heaps dc_wrong_in_heaps pm_wrong_in_heaps an_wrong_in_heaps cd_wrong_in_heaps ct_wrong_in_heaps), sl_wrong_in_heaps⟩)
    (c_wrong_in_heaps : PySem.W.codeIn K cd_wrong_in_heaps "wrong_in_heaps" = true) (k_wrong_in_heaps : PySem.W.keepIn K (.ref f_wrong_in_heaps) = true)
    {od_wrong_in_step an_wrong_in_step : Option Addr} {sl_wrong_in_step : Array (Option Value)} {oc_wrong_in_step kV_wrong_in_step dc_wrong_in_step pm_wrong_in_step cd_wrong_in_step ct_wrong_in_step : Value} {f_wrong_in_step : Addr}
    (a_wrong_in_step : PySem.W.nsIn K mainGlobals "wrong_in_step" = some (some (.ref f_wrong_in_step)))
    (l_wrong_in_step : K.lookup f_wrong_in_step = some ⟨oc_wrong_in_step, od_wrong_in_step, .func (PySem.W.fnOf "wrong_in_step" "wrong_in_step" (defArgs s_wrong_in_step) (defBody s_wrong_in_step) (defScope s_wrong_in_step) .none kV_wrong_in_step dc_wrong_in_step pm_wrong_in_step an_wrong_in_step cd_wrong_in_step ct_wrong_in_step), sl_wrong_in_step⟩)
    (c_wrong_in_step : PySem.W.codeIn K cd_wrong_in_step "wrong_in_step" = true) (k_wrong_in_step : PySem.W.keepIn K (.ref f_wrong_in_step) = true)
    {od_read_heaps an_read_heaps : Option Addr} {sl_read_heaps : Array (Option Value)} {oc_read_heaps kV_read_heaps dc_read_heaps pm_read_heaps cd_read_heaps ct_read_heaps : Value} {f_read_heaps : Addr}
    (a_read_heaps : PySem.W.nsIn K mainGlobals "read_heaps" = some (some (.ref f_read_heaps)))
    (l_read_heaps : K.lookup f_read_heaps = some ⟨oc_read_heaps, od_read_heaps, .func (PySem.W.fnOf "read_heaps" "read_heaps" (defArgs s_read_heaps) (defBody s_read_heaps) (defScope s_read_heaps) .none kV_read_heaps dc_read_heaps pm_read_heaps an_read_heaps cd_read_heaps ct_read_heaps), sl_read_heaps⟩)
    (c_read_heaps : PySem.W.codeIn K cd_read_heaps "read_heaps" = true) (k_read_heaps : PySem.W.keepIn K (.ref f_read_heaps) = true)
    {od_write_plan an_write_plan : Option Addr} {sl_write_plan : Array (Option Value)} {oc_write_plan kV_write_plan dc_write_plan pm_write_plan cd_write_plan ct_write_plan : Value} {f_write_plan : Addr}
    (a_write_plan : PySem.W.nsIn K mainGlobals "write_plan" = some (some (.ref f_write_plan)))
    (l_write_plan : K.lookup f_write_plan = some ⟨oc_write_plan, od_write_plan, .func (PySem.W.fnOf "write_plan" "write_plan" (defArgs s_write_plan) (defBody s_write_plan) (defScope s_write_plan) .none kV_write_plan dc_write_plan pm_write_plan an_write_plan cd_write_plan ct_write_plan), sl_write_plan⟩)
    (c_write_plan : PySem.W.codeIn K cd_write_plan "write_plan" = true) (k_write_plan : PySem.W.keepIn K (.ref f_write_plan) = true)
    {od_read_plan an_read_plan : Option Addr} {sl_read_plan : Array (Option Value)} {oc_read_plan kV_read_plan dc_read_plan pm_read_plan cd_read_plan ct_read_plan : Value} {f_read_plan : Addr}
    (a_read_plan : PySem.W.nsIn K mainGlobals "read_plan" = some (some (.ref f_read_plan)))
    (l_read_plan : K.lookup f_read_plan = some ⟨oc_read_plan, od_read_plan, .func (PySem.W.fnOf "read_plan" "read_plan" (defArgs s_read_plan) (defBody s_read_plan) (defScope s_read_plan) .none kV_read_plan dc_read_plan pm_read_plan an_read_plan cd_read_plan ct_read_plan), sl_read_plan⟩)
    (c_read_plan : PySem.W.codeIn K cd_read_plan "read_plan" = true) (k_read_plan : PySem.W.keepIn K (.ref f_read_plan) = true)
    {od_l_mix an_l_mix : Option Addr} {sl_l_mix : Array (Option Value)} {oc_l_mix kV_l_mix dc_l_mix pm_l_mix cd_l_mix ct_l_mix : Value} {f_l_mix : Addr}
    (a_l_mix : PySem.W.nsIn K mainGlobals "_law_mix" = some (some (.ref f_l_mix)))
    (l_l_mix : K.lookup f_l_mix = some ⟨oc_l_mix, od_l_mix, .func (PySem.W.fnOf "_law_mix" "_law_mix" (defArgs s_l_mix) (defBody s_l_mix) (defScope s_l_mix) .none kV_l_mix dc_l_mix pm_l_mix an_l_mix cd_l_mix ct_l_mix), sl_l_mix⟩)
    (c_l_mix : PySem.W.codeIn K cd_l_mix "_law_mix" = true) (k_l_mix : PySem.W.keepIn K (.ref f_l_mix) = true)
    {od_l_next an_l_next : Option Addr} {sl_l_next : Array (Option Value)} {oc_l_next kV_l_next dc_l_next pm_l_next cd_l_next ct_l_next : Value} {f_l_next : Addr}
    (a_l_next : PySem.W.nsIn K mainGlobals "_law_next" = some (some (.ref f_l_next)))
    (l_l_next : K.lookup f_l_next = some ⟨oc_l_next, od_l_next, .func (PySem.W.fnOf "_law_next" "_law_next" (defArgs s_l_next) (defBody s_l_next) (defScope s_l_next) .none kV_l_next dc_l_next pm_l_next an_l_next cd_l_next ct_l_next), sl_l_next⟩)
    (c_l_next : PySem.W.codeIn K cd_l_next "_law_next" = true) (k_l_next : PySem.W.keepIn K (.ref f_l_next) = true)
    {od_l_heaps an_l_heaps : Option Addr} {sl_l_heaps : Array (Option Value)} {oc_l_heaps kV_l_heaps dc_l_heaps pm_l_heaps cd_l_heaps ct_l_heaps : Value} {f_l_heaps : Addr}
    (a_l_heaps : PySem.W.nsIn K mainGlobals "_law_heaps" = some (some (.ref f_l_heaps)))
    (l_l_heaps : K.lookup f_l_heaps = some ⟨oc_l_heaps, od_l_heaps, .func (PySem.W.fnOf "_law_heaps" "_law_heaps" (defArgs s_l_heaps) (defBody s_l_heaps) (defScope s_l_heaps) .none kV_l_heaps dc_l_heaps pm_l_heaps an_l_heaps cd_l_heaps ct_l_heaps), sl_l_heaps⟩)
    (c_l_heaps : PySem.W.codeIn K cd_l_heaps "_law_heaps" = true) (k_l_heaps : PySem.W.keepIn K (.ref f_l_heaps) = true)
    {od_l_pairs an_l_pairs : Option Addr} {sl_l_pairs : Array (Option Value)} {oc_l_pairs kV_l_pairs dc_l_pairs pm_l_pairs cd_l_pairs ct_l_pairs : Value} {f_l_pairs : Addr}
    (a_l_pairs : PySem.W.nsIn K mainGlobals "_law_pairs" = some (some (.ref f_l_pairs)))
    (l_l_pairs : K.lookup f_l_pairs = some ⟨oc_l_pairs, od_l_pairs, .func (PySem.W.fnOf "_law_pairs" "_law_pairs" (defArgs s_l_pairs) (defBody s_l_pairs) (defScope s_l_pairs) .none kV_l_pairs dc_l_pairs pm_l_pairs an_l_pairs cd_l_pairs ct_l_pairs), sl_l_pairs⟩)
    (c_l_pairs : PySem.W.codeIn K cd_l_pairs "_law_pairs" = true) (k_l_pairs : PySem.W.keepIn K (.ref f_l_pairs) = true)
    {od_l_fault an_l_fault : Option Addr} {sl_l_fault : Array (Option Value)} {oc_l_fault kV_l_fault dc_l_fault pm_l_fault cd_l_fault ct_l_fault : Value} {f_l_fault : Addr}
    (a_l_fault : PySem.W.nsIn K mainGlobals "_law_fault" = some (some (.ref f_l_fault)))
    (l_l_fault : K.lookup f_l_fault = some ⟨oc_l_fault, od_l_fault, .func (PySem.W.fnOf "_law_fault" "_law_fault" (defArgs s_l_fault) (defBody s_l_fault) (defScope s_l_fault) .none kV_l_fault dc_l_fault pm_l_fault an_l_fault cd_l_fault ct_l_fault), sl_l_fault⟩)
    (c_l_fault : PySem.W.codeIn K cd_l_fault "_law_fault" = true) (k_l_fault : PySem.W.keepIn K (.ref f_l_fault) = true)
    {od_law an_law : Option Addr} {sl_law : Array (Option Value)} {oc_law kV_law dc_law pm_law cd_law ct_law : Value} {f_law : Addr}
    (a_law : PySem.W.nsIn K mainGlobals "law" = some (some (.ref f_law)))
    (l_law : K.lookup f_law = some ⟨oc_law, od_law, .func (PySem.W.fnOf "law" "law" (defArgs s_law) (defBody s_law) (defScope s_law) .none kV_law dc_law pm_law an_law cd_law ct_law), sl_law⟩)
    (c_law : PySem.W.codeIn K cd_law "law" = true) (k_law : PySem.W.keepIn K (.ref f_law) = true)
    (z_int : PySem.W.nsIn K mainGlobals "int" = some none)
    (z_bool : PySem.W.nsIn K mainGlobals "bool" = some none)
    (z_list : PySem.W.nsIn K mainGlobals "list" = some none)
    (z_len : PySem.W.nsIn K mainGlobals "len" = some none)
    (z_tuple : PySem.W.nsIn K mainGlobals "tuple" = some none)
    (z_isinstance : PySem.W.nsIn K mainGlobals "isinstance" = some none)
    (z_all : PySem.W.nsIn K mainGlobals "all" = some none)
    (z_any : PySem.W.nsIn K mainGlobals "any" = some none)
    (z_sum : PySem.W.nsIn K mainGlobals "sum" = some none)
    (z_enumerate : PySem.W.nsIn K mainGlobals "enumerate" = some none)
    (z_range : PySem.W.nsIn K mainGlobals "range" = some none)
    (z_sorted : PySem.W.nsIn K mainGlobals "sorted" = some none)
    (z_set : PySem.W.nsIn K mainGlobals "set" = some none)
    (z_max : PySem.W.nsIn K mainGlobals "max" = some none)
    (z_min : PySem.W.nsIn K mainGlobals "min" = some none)
    (z_str : PySem.W.nsIn K mainGlobals "str" = some none)
    {tk_FEWEST_HEAPS : Tok} (w_FEWEST_HEAPS : PySem.W.nsIn K mainGlobals "FEWEST_HEAPS" = some (some (.int 2 tk_FEWEST_HEAPS)))
    {tk_MOST_HEAPS : Tok} (w_MOST_HEAPS : PySem.W.nsIn K mainGlobals "MOST_HEAPS" = some (some (.int 6 tk_MOST_HEAPS)))
    {tk_GREATEST : Tok} (w_GREATEST : PySem.W.nsIn K mainGlobals "GREATEST" = some (some (.int 1000000000000000000000000000000 tk_GREATEST)))
    {tk_LONGEST_PLAN : Tok} (w_LONGEST_PLAN : PySem.W.nsIn K mainGlobals "LONGEST_PLAN" = some (some (.int 20000 tk_LONGEST_PLAN)))
    {tk_HEAPS_WORD : Tok} (w_HEAPS_WORD : PySem.W.nsIn K mainGlobals "HEAPS_WORD" = some (some (.str "heaps" tk_HEAPS_WORD)))
    {tk_STEP_WORD : Tok} (w_STEP_WORD : PySem.W.nsIn K mainGlobals "STEP_WORD" = some (some (.str "step" tk_STEP_WORD)))
    : ∃ fd : FuncData, (∀ (s : Shared) (v : Value), BindsTo s fd ⟨[v], []⟩ [("_law_script", v)]) ∧ ∀ base : Heap, K.In base → base.Ns mainGlobals mg → FnOk l.prog w K mg base CX0 6 fa fd ["_law_script"] (spLaw K) := by
  have e := hfa.symm.trans (PySem.W.mg_of X G a_law)
  cases e
  have F_is_integer := fun_mk (st := s_is_integer) l_is_integer c_is_integer k_is_integer
  have b_is_integer := F_is_integer.binds (ps := ["value", "least", "greatest"]) fun _ _ _ _ _ _ us hl => match us, hl with | [_, _, _], _ => rfl
  have F_is_heaps := fun_mk (st := s_is_heaps) l_is_heaps c_is_heaps k_is_heaps
  have b_is_heaps := F_is_heaps.binds (ps := ["value"]) fun _ _ _ _ _ _ us hl => match us, hl with | [_], _ => rfl
  have F_check_heaps := fun_mk (st := s_check_heaps) l_check_heaps c_check_heaps k_check_heaps
  have b_check_heaps := F_check_heaps.binds (ps := ["heaps"]) fun _ _ _ _ _ _ us hl => match us, hl with | [_], _ => rfl
  have F_is_pair_of := fun_mk (st := s_is_pair_of) l_is_pair_of c_is_pair_of k_is_pair_of
  have b_is_pair_of := F_is_pair_of.binds (ps := ["many", "value"]) fun _ _ _ _ _ _ us hl => match us, hl with | [_, _], _ => rfl
  have F_check_plan := fun_mk (st := s_check_plan) l_check_plan c_check_plan k_check_plan
  have b_check_plan := F_check_plan.binds (ps := ["many", "plan"]) fun _ _ _ _ _ _ us hl => match us, hl with | [_, _], _ => rfl
  have F_InvalidText_init := fun_mk (st := s_InvalidText_init) l_InvalidText_init c_InvalidText_init k_InvalidText_init
  have b_InvalidText_init := F_InvalidText_init.binds (ps := ["self", "line", "word"]) fun _ _ _ _ _ _ us hl => match us, hl with | [_, _, _], _ => rfl
  have F_is_number := fun_mk (st := s_is_number) l_is_number c_is_number k_is_number
  have b_is_number := F_is_number.binds (ps := ["word", "greatest"]) fun _ _ _ _ _ _ us hl => match us, hl with | [_, _], _ => rfl
  have F_line_of := fun_mk (st := s_line_of) l_line_of c_line_of k_line_of
  have b_line_of := F_line_of.binds (ps := ["word", "numbers"]) fun _ _ _ _ _ _ us hl => match us, hl with | [_, _], _ => rfl
  have F_words_of := fun_mk (st := s_words_of) l_words_of c_words_of k_words_of
  have b_words_of := F_words_of.binds (ps := ["line"]) fun _ _ _ _ _ _ us hl => match us, hl with | [_], _ => rfl
  have F_numbers_behind := fun_mk (st := s_numbers_behind) l_numbers_behind c_numbers_behind k_numbers_behind
  have b_numbers_behind := F_numbers_behind.binds (ps := ["words"]) fun _ _ _ _ _ _ us hl => match us, hl with | [_], _ => rfl
  have F_wrong_in_heaps := fun_mk (st := s_wrong_in_heaps) l_wrong_in_heaps c_wrong_in_heaps k_wrong_in_heaps
  have b_wrong_in_heaps := F_wrong_in_heaps.binds (ps := ["words"]) fun _ _ _ _ _ _ us hl => match us, hl with | [_], _ => rfl
  have F_wrong_in_step := fun_mk (st := s_wrong_in_step) l_wrong_in_step c_wrong_in_step k_wrong_in_step
  have b_wrong_in_step := F_wrong_in_step.binds (ps := ["many", "words"]) fun _ _ _ _ _ _ us hl => match us, hl with | [_, _], _ => rfl
  have F_read_heaps := fun_mk (st := s_read_heaps) l_read_heaps c_read_heaps k_read_heaps
  have b_read_heaps := F_read_heaps.binds (ps := ["words"]) fun _ _ _ _ _ _ us hl => match us, hl with | [_], _ => rfl
  have F_write_plan := fun_mk (st := s_write_plan) l_write_plan c_write_plan k_write_plan
  have b_write_plan := F_write_plan.binds (ps := ["heaps", "plan"]) fun _ _ _ _ _ _ us hl => match us, hl with | [_, _], _ => rfl
  have F_read_plan := fun_mk (st := s_read_plan) l_read_plan c_read_plan k_read_plan
  have b_read_plan := F_read_plan.binds (ps := ["text"]) fun _ _ _ _ _ _ us hl => match us, hl with | [_], _ => rfl
  have F_l_mix := fun_mk (st := s_l_mix) l_l_mix c_l_mix k_l_mix
  have b_l_mix := F_l_mix.binds (ps := ["_law_script", "_law_seed"]) fun _ _ _ _ _ _ us hl => match us, hl with | [_, _], _ => rfl
  have F_l_next := fun_mk (st := s_l_next) l_l_next c_l_next k_l_next
  have b_l_next := F_l_next.binds (ps := ["_law_h", "_law_bound"]) fun _ _ _ _ _ _ us hl => match us, hl with | [_, _], _ => rfl
  have F_l_heaps := fun_mk (st := s_l_heaps) l_l_heaps c_l_heaps k_l_heaps
  have b_l_heaps := F_l_heaps.binds (ps := ["_law_h", "_law_least", "_law_most"]) fun _ _ _ _ _ _ us hl => match us, hl with | [_, _, _], _ => rfl
  have F_l_pairs := fun_mk (st := s_l_pairs) l_l_pairs c_l_pairs k_l_pairs
  have b_l_pairs := F_l_pairs.binds (ps := ["_law_size"]) fun _ _ _ _ _ _ us hl => match us, hl with | [_], _ => rfl
  have F_l_fault := fun_mk (st := s_l_fault) l_l_fault c_l_fault k_l_fault
  have b_l_fault := F_l_fault.binds (ps := ["_law_h", "_law_rows", "_law_heaps_here", "_law_plan"]) fun _ _ _ _ _ _ us hl => match us, hl with | [_, _, _, _], _ => rfl
  have F_law := fun_mk (st := s_law) l_law c_law k_law
  have b_law := F_law.binds (ps := ["_law_script"]) fun _ _ _ _ _ _ us hl => match us, hl with | [_], _ => rfl
  have Z : Tz mg := ⟨PySem.W.mg_none_of X G z_int, PySem.W.mg_none_of X G z_bool, PySem.W.mg_none_of X G z_list, PySem.W.mg_none_of X G z_len, PySem.W.mg_none_of X G z_tuple, PySem.W.mg_none_of X G z_isinstance, PySem.W.mg_none_of X G z_all, PySem.W.mg_none_of X G z_any, PySem.W.mg_none_of X G z_sum, PySem.W.mg_none_of X G z_enumerate, PySem.W.mg_none_of X G z_range, PySem.W.mg_none_of X G z_sorted, PySem.W.mg_none_of X G z_set, PySem.W.mg_none_of X G z_max, PySem.W.mg_none_of X G z_min, PySem.W.mg_none_of X G z_str⟩
  have T : Tp mg := ⟨Z, ⟨_, PySem.W.mg_of X G w_FEWEST_HEAPS⟩, ⟨_, PySem.W.mg_of X G w_MOST_HEAPS⟩, ⟨_, PySem.W.mg_of X G w_GREATEST⟩⟩
  have U : Tx K mg := ⟨Z.int, Z.list, Z.max, Z.len, Z.tuple, Z.range⟩
  have B_BadHeaps : NilX l.prog K mg "BadHeaps" A_BadHeaps := ⟨PySem.W.mg_of X G x_BadHeaps, kC_BadHeaps, eC_BadHeaps, tC_BadHeaps, ⟨HE, f_HI, sup_mk tI lI cI lcda hvs hfile lcc hD z_super thr topN, ⟨⟨nm_BadHeaps, q_BadHeaps, N_BadHeaps, bs_BadHeaps, _, sn_BadHeaps, sub_BadHeaps, ab_BadHeaps, col_BadHeaps, dd_BadHeaps, m0_BadHeaps, m1_BadHeaps, m2_BadHeaps, m3_BadHeaps, m5_BadHeaps, xL_BadHeaps, rfl⟩, iHI_BadHeaps, supI_BadHeaps, mroI_BadHeaps, veI_BadHeaps, xinI_BadHeaps⟩⟩⟩
  have te_BadHeaps := exm_self eC_BadHeaps iC_BadHeaps tC_BadHeaps sC_BadHeaps
  have te_InvalidText := exm_self eC_InvalidText iC_InvalidText tC_InvalidText sC_InvalidText
  have TT : TxtT mg := ⟨T, ⟨_, PySem.W.mg_of X G w_HEAPS_WORD⟩, ⟨_, PySem.W.mg_of X G w_STEP_WORD⟩⟩
  refine ⟨PySem.W.fnOf "law" "law" (defArgs s_law) (defBody s_law) (defScope s_law) .none kV_law dc_law pm_law an_law cd_law ct_law, fun s v => .of_eq rfl, fun base KB GB => ?_⟩
  have C_is_integer : Cal l.prog w K mg base CX0 1 "is_integer" ["value", "least", "greatest"] (spIsInt K) := ⟨_, _, PySem.W.mg_of X G a_is_integer, k_is_integer, b_is_integer, ok_is_integer F_is_integer T⟩
  have C_is_heaps : Cal l.prog w K mg base CX0 2 "is_heaps" ["value"] (spIsHeaps K) := ⟨_, _, PySem.W.mg_of X G a_is_heaps, k_is_heaps, b_is_heaps, ok_is_heaps F_is_heaps T C_is_integer⟩
  have C_check_heaps : Cal l.prog w K mg base (L2.CX l.prog w) 3 "check_heaps" ["heaps"] (spChkHeapsD K A_BadHeaps) := ⟨_, _, PySem.W.mg_of X G a_check_heaps, k_check_heaps, b_check_heaps, ok_check_heaps F_check_heaps T B_BadHeaps C_is_heaps⟩
  have C_check_heapsG : Cal l.prog w K mg base CX0 3 "check_heaps" ["heaps"] (spChkHeaps K) := Cal.calm C_check_heaps fun _ _ _ _ => chk_good
  have C_is_pair_of : Cal l.prog w K mg base CX0 2 "is_pair_of" ["many", "value"] (spIsPair K) := ⟨_, _, PySem.W.mg_of X G a_is_pair_of, k_is_pair_of, b_is_pair_of, ok_is_pair_of F_is_pair_of T C_is_integer⟩
  have C_check_plan : Cal l.prog w K mg base CX0 3 "check_plan" ["many", "plan"] (spChkPlan K) := ⟨_, _, PySem.W.mg_of X G a_check_plan, k_check_plan, b_check_plan, ok_check_plan F_check_plan T ⟨_, PySem.W.mg_of X G w_LONGEST_PLAN⟩ C_is_pair_of⟩
  have B : ItT l.prog w K mg base A_InvalidText := ⟨PySem.W.mg_of X G x_InvalidText, ⟨⟨nm_InvalidText, q_InvalidText, N_InvalidText, bs_InvalidText, _, sn_InvalidText, sub_InvalidText, ab_InvalidText, col_InvalidText, dd_InvalidText, m0_InvalidText, m1_InvalidText, m2_InvalidText, m3_InvalidText, m5_InvalidText, xL_InvalidText, rfl⟩, sa_InvalidText, eC_InvalidText, tC_InvalidText, kC_InvalidText⟩, nb_InvalidText_line, nb_InvalidText_word, ⟨_, _, a_InvalidText_init, t_InvalidText_init, b_InvalidText_init, ok_it_init F_InvalidText_init⟩⟩
  have C_is_number : Cal l.prog w K mg base CX0 1 "is_number" ["word", "greatest"] (spIsNumber) := ⟨_, _, PySem.W.mg_of X G a_is_number, k_is_number, b_is_number, ok_is_number F_is_number TT⟩
  have C_line_of : Cal l.prog w K mg base CX0 1 "line_of" ["word", "numbers"] (spLine K) := ⟨_, _, PySem.W.mg_of X G a_line_of, k_line_of, b_line_of, ok_line_of F_line_of TT⟩
  have C_words_of : Cal l.prog w K mg base CX0 1 "words_of" ["line"] (spWords K) := ⟨_, _, PySem.W.mg_of X G a_words_of, k_words_of, b_words_of, ok_words_of F_words_of TT⟩
  have C_numbers_behind : Cal l.prog w K mg base CX0 1 "numbers_behind" ["words"] (spNums K) := ⟨_, _, PySem.W.mg_of X G a_numbers_behind, k_numbers_behind, b_numbers_behind, ok_numbers_behind F_numbers_behind TT⟩
  have C_wrong_in_heaps : Cal l.prog w K mg base CX0 2 "wrong_in_heaps" ["words"] (spWrongH K) := ⟨_, _, PySem.W.mg_of X G a_wrong_in_heaps, k_wrong_in_heaps, b_wrong_in_heaps, ok_wrong_in_heaps F_wrong_in_heaps TT C_is_number C_numbers_behind⟩
  have C_wrong_in_step : Cal l.prog w K mg base CX0 2 "wrong_in_step" ["many", "words"] (spWrongS K) := ⟨_, _, PySem.W.mg_of X G a_wrong_in_step, k_wrong_in_step, b_wrong_in_step, ok_wrong_in_step F_wrong_in_step TT C_is_number⟩
  have C_read_heaps : Cal l.prog w K mg base (L2.CX l.prog w) 4 "read_heaps" ["words"] (spRdH K A_InvalidText) := ⟨_, _, PySem.W.mg_of X G a_read_heaps, k_read_heaps, b_read_heaps, ok_read_heaps F_read_heaps B C_wrong_in_heaps C_numbers_behind⟩
  have C_write_plan : Cal l.prog w K mg base CX0 4 "write_plan" ["heaps", "plan"] (spWrite K) := ⟨_, _, PySem.W.mg_of X G a_write_plan, k_write_plan, b_write_plan, ok_write_plan F_write_plan TT C_check_heapsG C_check_plan C_line_of⟩
  have C_read_plan : Cal l.prog w K mg base (L2.CX l.prog w) 5 "read_plan" ["text"] (spRead K A_InvalidText) := ⟨_, _, PySem.W.mg_of X G a_read_plan, k_read_plan, b_read_plan, ok_read_plan F_read_plan TT ⟨_, PySem.W.mg_of X G w_LONGEST_PLAN⟩ B C_words_of C_read_heaps C_wrong_in_step C_numbers_behind⟩
  have C_read_planG : Cal l.prog w K mg base CX0 5 "read_plan" ["text"] (spReadG K) := Cal.calm C_read_plan fun _ _ _ _ => read_good
  have XF : XfC K A_InvalidText := ⟨ga_InvalidText, gg_InvalidText, eC_InvalidText, hC_InvalidText⟩
  have EC : ExcC K A_InvalidText := ⟨ga_InvalidText, gg_InvalidText, eC_InvalidText, hC_InvalidText, ha_cls, hn_cls, ht_cls, hm_cls⟩
  have C_l_mix : Cal l.prog w K mg base CX0 1 "_law_mix" ["_law_script", "_law_seed"] (spMix K) := ⟨_, _, PySem.W.mg_of X G a_l_mix, k_l_mix, b_l_mix, ok_mix F_l_mix U⟩
  have C_l_next : Cal l.prog w K mg base CX0 1 "_law_next" ["_law_h", "_law_bound"] (spNext) := ⟨_, _, PySem.W.mg_of X G a_l_next, k_l_next, b_l_next, ok_next F_l_next U⟩
  have C_l_heaps : Cal l.prog w K mg base CX0 2 "_law_heaps" ["_law_h", "_law_least", "_law_most"] (spHeaps) := ⟨_, _, PySem.W.mg_of X G a_l_heaps, k_l_heaps, b_l_heaps, ok_heaps F_l_heaps U C_l_next⟩
  have C_l_pairs : Cal l.prog w K mg base CX0 1 "_law_pairs" ["_law_size"] (spPairs K) := ⟨_, _, PySem.W.mg_of X G a_l_pairs, k_l_pairs, b_l_pairs, ok_l_pairs F_l_pairs U⟩
  have C_l_fault : Cal l.prog w K mg base CX0 2 "_law_fault" ["_law_h", "_law_rows", "_law_heaps_here", "_law_plan"] (spFault K) := ⟨_, _, PySem.W.mg_of X G a_l_fault, k_l_fault, b_l_fault, ok_l_fault F_l_fault T C_l_next⟩
  exact ok_law F_law T B XF EC (PySem.W.mg_of X G x_HeapError) ko_HE te_InvalidText C_l_mix C_l_next C_l_heaps C_l_pairs C_l_fault C_write_plan C_read_plan C_read_planG
theorem walk {l : PySem.W.OpenLaw} {q : Program} {loose : List Str} {XP : (Str → Option Value) → Heap → Prop} {YP : World → Heap → Prop} {d : DefRec} {K : Params → PySem.W.Frag} (hn : l.most = some 63) (hdf : d.params.defaults = [])
    (hY : ∀ (w : World) (h : Heap), YP w h → (K w.params).In h)
    (F : ∀ (w : World) (mg : Str → Option Value) (fa : Addr) (h : Heap), (K w.params).In h → h.Ns mainGlobals mg → mg d.name = some (.ref fa) →
      ∃ fd : FuncData, (∀ (s : Shared) (u : Value), BindsTo s fd ⟨[u], []⟩ [("_law_script", u)]) ∧ ∀ base : Heap, (K w.params).In base → base.Ns mainGlobals mg → FnOk l.prog w (K w.params) mg base CX0 6 fa fd ["_law_script"] (spLaw (K w.params))) :
    PySem.W.WalkO q loose XP YP l.row.toRowW d [] (fun f vs => PySem.call f vs) :=
  L2.walk_of (n := 63) (k := 6) (x := "_law_script") (CX := fun _ => CX0) (sp := fun w => spLaw (K w.params)) hn (by decide) hdf ⟨rfl, by decide, by decide⟩ hY F (fun _ _ a ns hl _ hS => ⟨a, ns, rfl, hS, hl, fun _ => rfl⟩) fun _ _ _ _ _ z => z
end Hd
open PySem PySem.W PyProof.Rows
set_option maxRecDepth 100000 in
set_option maxHeartbeats 0 in
theorem PySem.Challenge.cw_heapsdouble_k08_whole_texts_refused_holds : PySem.Challenge.rw_heapsdouble_k08_whole_texts_refused.Holds := by
  w_on; o_law; k_head; (case hw => w_witness2)
  k_fill
  refine Hd.walk (l := PySem.Challenge.rw_heapsdouble_k08_whole_texts_refused) rfl rfl (fun w h Y => PySem.W.kIn_of Y) ?F
  case F =>
    intro w mg fa h KX G hmg
    refine' Hd.all_mk KX G hmg ?x_BadHeaps ?xL_BadHeaps ?iHI_BadHeaps ?tI ?lI ?cI ?lcda ?hvs ?hfile ?lcc ?hD ?thr ?topN ?z_super ?supI_BadHeaps ?mroI_BadHeaps ?veI_BadHeaps ?xinI_BadHeaps ?kC_BadHeaps ?eC_BadHeaps ?tC_BadHeaps ?iC_BadHeaps ?sC_BadHeaps ?x_InvalidText ?xL_InvalidText ?sa_InvalidText ?ga_InvalidText ?gg_InvalidText ?nb_InvalidText_line ?nb_InvalidText_word ?kC_InvalidText ?eC_InvalidText ?tC_InvalidText ?hC_InvalidText ?iC_InvalidText ?sC_InvalidText ?x_HeapError ?ha_cls ?hn_cls ?ht_cls ?hm_cls ?ko_HE ?a_is_integer ?l_is_integer ?c_is_integer ?k_is_integer ?a_is_heaps ?l_is_heaps ?c_is_heaps ?k_is_heaps ?a_check_heaps ?l_check_heaps ?c_check_heaps ?k_check_heaps ?a_is_pair_of ?l_is_pair_of ?c_is_pair_of ?k_is_pair_of ?a_check_plan ?l_check_plan ?c_check_plan ?k_check_plan ?a_InvalidText_init ?t_InvalidText_init ?l_InvalidText_init ?c_InvalidText_init ?k_InvalidText_init ?a_is_number ?l_is_number ?c_is_number ?k_is_number ?a_line_of ?l_line_of ?c_line_of ?k_line_of ?a_words_of ?l_words_of ?c_words_of ?k_words_of ?a_numbers_behind ?l_numbers_behind ?c_numbers_behind ?k_numbers_behind ?a_wrong_in_heaps ?l_wrong_in_heaps ?c_wrong_in_heaps ?k_wrong_in_heaps ?a_wrong_in_step ?l_wrong_in_step ?c_wrong_in_step ?k_wrong_in_step ?a_read_heaps ?l_read_heaps ?c_read_heaps ?k_read_heaps ?a_write_plan ?l_write_plan ?c_write_plan ?k_write_plan ?a_read_plan ?l_read_plan ?c_read_plan ?k_read_plan ?a_l_mix ?l_l_mix ?c_l_mix ?k_l_mix ?a_l_next ?l_l_next ?c_l_next ?k_l_next ?a_l_heaps ?l_l_heaps ?c_l_heaps ?k_l_heaps ?a_l_pairs ?l_l_pairs ?c_l_pairs ?k_l_pairs ?a_l_fault ?l_l_fault ?c_l_fault ?k_l_fault ?a_law ?l_law ?c_law ?k_law ?z_int ?z_bool ?z_list ?z_len ?z_tuple ?z_isinstance ?z_all ?z_any ?z_sum ?z_enumerate ?z_range ?z_sorted ?z_set ?z_max ?z_min ?z_str ?w_FEWEST_HEAPS ?w_MOST_HEAPS ?w_GREATEST ?w_LONGEST_PLAN ?w_HEAPS_WORD ?w_STEP_WORD
    (case x_BadHeaps => k_is)
    (case xL_BadHeaps => k_is)
    (case iHI_BadHeaps => k_is)
    (case tI => k_is)
    (case lI => k_is)
    (case cI => k_is)
    (case lcda => k_is)
    (case hvs => rfl)
    (case hfile => first | rfl | decide +kernel)
    (case lcc => k_is)
    (case hD => k_is)
    (case thr => k_is)
    (case topN => first | rfl | decide +kernel)
    (case z_super => k_is)
    (case supI_BadHeaps => ks_is)
    (case mroI_BadHeaps => k_is)
    (case veI_BadHeaps => k_is)
    (case xinI_BadHeaps => kx_is)
    (case kC_BadHeaps => k_is)
    (case eC_BadHeaps => k_is)
    (case tC_BadHeaps => k_is)
    (case iC_BadHeaps => k_is)
    (case sC_BadHeaps => first | rfl | k_is)
    (case x_InvalidText => k_is)
    (case xL_InvalidText => k_is)
    (case sa_InvalidText => k_is)
    (case ga_InvalidText => k_is)
    (case gg_InvalidText => k_is)
    (case nb_InvalidText_line => k_is)
    (case nb_InvalidText_word => k_is)
    (case kC_InvalidText => k_is)
    (case eC_InvalidText => k_is)
    (case tC_InvalidText => k_is)
    (case hC_InvalidText => k_is)
    (case iC_InvalidText => k_is)
    (case sC_InvalidText => first | rfl | k_is)
    (case x_HeapError => k_is)
    (case ha_cls => k_is)
    (case hn_cls => k_is)
    (case ht_cls => k_is)
    (case hm_cls => k_is)
    (case ko_HE => kit_is)
    (case a_is_integer => k_is)
    (case l_is_integer => k_is)
    (case c_is_integer => k_is)
    (case k_is_integer => k_is)
    (case a_is_heaps => k_is)
    (case l_is_heaps => k_is)
    (case c_is_heaps => k_is)
    (case k_is_heaps => k_is)
    (case a_check_heaps => k_is)
    (case l_check_heaps => k_is)
    (case c_check_heaps => k_is)
    (case k_check_heaps => k_is)
    (case a_is_pair_of => k_is)
    (case l_is_pair_of => k_is)
    (case c_is_pair_of => k_is)
    (case k_is_pair_of => k_is)
    (case a_check_plan => k_is)
    (case l_check_plan => k_is)
    (case c_check_plan => k_is)
    (case k_check_plan => k_is)
    (case a_InvalidText_init => k_is)
    (case t_InvalidText_init => k_is)
    (case l_InvalidText_init => k_is)
    (case c_InvalidText_init => k_is)
    (case k_InvalidText_init => k_is)
    (case a_is_number => k_is)
    (case l_is_number => k_is)
    (case c_is_number => k_is)
    (case k_is_number => k_is)
    (case a_line_of => k_is)
    (case l_line_of => k_is)
    (case c_line_of => k_is)
    (case k_line_of => k_is)
    (case a_words_of => k_is)
    (case l_words_of => k_is)
    (case c_words_of => k_is)
    (case k_words_of => k_is)
    (case a_numbers_behind => k_is)
    (case l_numbers_behind => k_is)
    (case c_numbers_behind => k_is)
    (case k_numbers_behind => k_is)
    (case a_wrong_in_heaps => k_is)
    (case l_wrong_in_heaps => k_is)
    (case c_wrong_in_heaps => k_is)
    (case k_wrong_in_heaps => k_is)
    (case a_wrong_in_step => k_is)
    (case l_wrong_in_step => k_is)
    (case c_wrong_in_step => k_is)
    (case k_wrong_in_step => k_is)
    (case a_read_heaps => k_is)
    (case l_read_heaps => k_is)
    (case c_read_heaps => k_is)
    (case k_read_heaps => k_is)
    (case a_write_plan => k_is)
    (case l_write_plan => k_is)
    (case c_write_plan => k_is)
    (case k_write_plan => k_is)
    (case a_read_plan => k_is)
    (case l_read_plan => k_is)
    (case c_read_plan => k_is)
    (case k_read_plan => k_is)
    (case a_l_mix => k_is)
    (case l_l_mix => k_is)
    (case c_l_mix => k_is)
    (case k_l_mix => k_is)
    (case a_l_next => k_is)
    (case l_l_next => k_is)
    (case c_l_next => k_is)
    (case k_l_next => k_is)
    (case a_l_heaps => k_is)
    (case l_l_heaps => k_is)
    (case c_l_heaps => k_is)
    (case k_l_heaps => k_is)
    (case a_l_pairs => k_is)
    (case l_l_pairs => k_is)
    (case c_l_pairs => k_is)
    (case k_l_pairs => k_is)
    (case a_l_fault => k_is)
    (case l_l_fault => k_is)
    (case c_l_fault => k_is)
    (case k_l_fault => k_is)
    (case a_law => k_is)
    (case l_law => k_is)
    (case c_law => k_is)
    (case k_law => k_is)
    (case z_int => k_is)
    (case z_bool => k_is)
    (case z_list => k_is)
    (case z_len => k_is)
    (case z_tuple => k_is)
    (case z_isinstance => k_is)
    (case z_all => k_is)
    (case z_any => k_is)
    (case z_sum => k_is)
    (case z_enumerate => k_is)
    (case z_range => k_is)
    (case z_sorted => k_is)
    (case z_set => k_is)
    (case z_max => k_is)
    (case z_min => k_is)
    (case z_str => k_is)
    (case w_FEWEST_HEAPS => k_is)
    (case w_MOST_HEAPS => k_is)
    (case w_GREATEST => k_is)
    (case w_LONGEST_PLAN => k_is)
    (case w_HEAPS_WORD => k_is)
    (case w_STEP_WORD => k_is)
