import PyProof.Rows.All
import Wide.All
import OpenK.AllK
import Wide.FinOn
import HandS.ForMost
import HandS.Exc
import HandS.TryOnly
import HandS.ExcOwn
import HandS.WordsExc
import HandS.ExcInit
import HandS.ExcField
import HandS.IsInst
import HandS.Deep
import HandS.Walk
import HandS.Wide
import HandS.Style
import KE.KTupSum
import HandS.Property
import HandS.TupAny
import HandS.SetFor
import KE.GoesEnum
import KE.DataMinMax
import KE.KExcSuper
import KE.KSuper
import KE.KExcLine
import PySem.Challenge.RW_heapsdouble_k06_whole_led_desk
set_option Elab.async false
set_option linter.all false
set_option maxRecDepth 100000
set_option maxHeartbeats 2000000
/-! Rules of our own: xs[i] read for op=, sum of a tuple, enumerate of a tuple. -/
namespace Hd
open PySem PySem.Spec PyProof.Rows L2

theorem Same.tup {K : PySem.W.Frag} {H H' : Hp} {a : Addr} {xs : List V} (e : Same H H') (h : SqT K H a xs) : SqT K H' a xs := by
  rcases h with (h | ⟨o, h⟩) | h
  · exact .inl (.inl (e _ _ h))
  · exact .inl (.inr ⟨o, e _ _ h⟩)
  · exact .inr h
theorem Same.new {H : Hp} {p : Addr} {o : HO} (h : H p = none) : Same H (upd H p o) := fun a u e => by
  rw [upd_ne (ne_of_none e h)]
  exact e
theorem same_upd {H H' : Hp} {p : Addr} {o : HO} (e : Same H H') (h : H p = none) : Same H (upd H' p o) := fun a u ha => by
  rw [upd_ne (ne_of_none ha h)]
  exact e a u ha

/-- a def of one's own by its name: what a caller needs -/
structure Cal (P : Program) (w : World) (K : PySem.W.Frag) (mg : Str → Option Value) (base : Heap) (CX : CXT) (k : Nat) (x : Str) (ps : List Str) (sp : Sp) : Prop where
  ex : ∃ (f : Addr) (fd : FuncData), mg x = some (.ref f) ∧ PySem.W.keepIn K (.ref f) = true ∧ Binds K fd ps [] ∧ FnOk P w K mg base CX k f fd ps sp
def tCal (sp : Sp) (E : XK) (t : TA) : TE := fun σ H Q => t σ H fun vs H1 => sp vs H1 Q E
section
variable {X : Cx}
theorem pe_cal {CX : CXT} {j k : Nat} {x : Str} {ps : List Str} {sp : Sp} {E : XK} {e : Expr} {es : List Expr} {t : TA} {p pos : Pos} (C : Cal X.prog X.w X.K X.mg X.base CX j x ps sp) (hr : Room k X.A) (hg : Gl X x) (hx : Passes CX X E)
    (ha : PA X (e :: es) t) (hk : j ≤ k := by decide) (hdb : (x == ("__debug__" : Str)) = false := by decide) (he : starEach (e :: es) X.env = (false, eval e X.env) :: starEach es X.env := by rfl) (hpl : (backTo pos (starEach es X.env)).any (·.1) = false := by rfl) :
    PE X (.Call (.Name x p) (e :: es) [] pos) (tCal sp E t) := by
  obtain ⟨f, fd, hm, kp, hb, F⟩ := C.ex
  refine ⟨fun pins s σ H Q I h => (pe_call (dvs := []) F (hr.mono hk) hg hm kp hb .nil hx ha hdb he hpl).run pins s σ H Q I ?_⟩
  have e1 : (tCall sp [] E t) = tCal sp E t := by
    funext σ H Q
    unfold tCall tCal
    congr 1
    funext vs H1
    rw [List.append_nil]
  rw [e1]
  exact h
end

/-- a block cut behind its first statement: R is what every way through it brings -/
def tCutM (t u : TS) : TS := fun D σ H => ∃ R : L2.St → Hp → Prop, t { D with nx := R } σ H ∧ ∀ σ' H', R σ' H' → u D σ' H'
theorem pss_cutM {X : Cx} {st : Stmt} {rest : List Stmt} {t u : TS} (a : PS X st t) (b : PSs X rest u) : PSs X (st :: rest) (tCutM t u) := by
  refine ⟨fun pins s σ H D I hh => ?_⟩
  obtain ⟨R, hR, go⟩ := hh
  refine wpAny_execs_cons (thn (a.run pins s σ H { D with nx := R } I hR) fun f s1 q => ?_)
  cases f with
  | next =>
    obtain ⟨σ1, H1, I1, q1⟩ := q
    exact b.run pins s1 σ1 H1 D I1 (go σ1 H1 q1)
  | ret _ => exact q
  | brk => exact q
  | cont => exact q
section
variable {X : Cx}
/-- xs[k], 0 ≤ k, read for xs[k] op= e -/
def rGetL (K : PySem.W.Frag) : V → V → Hp → VK → Prop := fun o i H Q => ∃ p xs k v, o = .ref p ∧ i = .int k ∧ SqL K H p xs ∧ 0 ≤ k ∧ xs[k.toNat]? = some v ∧ Q v H
theorem pget_list : PGet X (rGetL X.K) := by
  intro pins s σ H o i ov iv Q I ro ri h
  obtain ⟨p, xs, k, v, rfl, rfl, hq, h0, he, q⟩ := h
  cases ro
  obtain ⟨t, rfl⟩ := ri
  obtain ⟨its, r, pl, hz⟩ := I.list hq
  obtain ⟨w, ew, rw'⟩ := r.get he
  have hl := r.length
  have hlt : k.toNat < its.length := (List.getElem?_eq_some_iff.mp ew).1
  have hb : k < 2 ^ 63 := by
    rw [sizeLine_eq] at hz
    omega
  exact wpAny_getItem_list pl.isList h0 hb (by simpa using ew) ⟨v, H, I, rw', q⟩

/-- sum(t) of a tuple of ints -/
def rSumT (K : PySem.W.Frag) : List V → Hp → VK → Prop := fun vs H Q => ∃ (a : Addr) (ns : List Int), vs = [V.ref a] ∧ SqT K H a (ns.map V.int) ∧ Q (.int ns.sum) H
theorem cr_sumT (hc : X.calm = true) : CallR X (.builtin "sum") (rSumT X.K) := by
  intro pins s σ H vs us Q I r h
  obtain ⟨a, ns, rfl, hs, q⟩ := h
  obtain ⟨its, rv, hl, _⟩ := I.tuple hs
  rw [Vals.ref1 r]
  have hi := rv.ints
  obtain ⟨xs, e⟩ := hi.allInts.items
  have hn : numsOf (intItems xs).toList = ns := by rw [← e]; exact hi.numsOf
  rw [nums_intItems] at hn
  rw [e] at hl
  refine PySem.W.ktm_sumG (I.ok.hd hc) hl fun h' tk t' hk => ?_
  rw [PySem.preSum_eq, List.take_of_length_le (by simp), hn]
  exact ⟨.int _, H, I.kept hk, ⟨_, rfl⟩, q⟩
end
end Hd
set_option maxHeartbeats 2000000
/-! Promises joined and widened; methods, properties and len of an own class by name; tuple.count. -/
namespace Hd
open PySem PySem.Spec PyProof.Rows L2

section
variable {P : Program} {w : World} {K : PySem.W.Frag} {mg : Str → Option Value} {base : Heap} {k k' : Nat} {f : Addr} {fd : FuncData} {ps : List Str} {sp sp' : Sp} {CX : CXT}
theorem fn_or (F : FnOk P w K mg base CX k f fd ps sp) (G : FnOk P w K mg base CX k f fd ps sp') : FnOk P w K mg base CX k f fd ps (fun vs H Q E => sp vs H Q E ∨ sp' vs H Q E) :=
  ⟨fun vs H Q E h => h.elim (F.len vs H Q E) (G.len vs H Q E), fun A outer s H args us vs Q E hr he hb hv h => h.elim (F.run A outer s H args us vs Q E hr he hb hv) (G.run A outer s H args us vs Q E hr he hb hv)⟩
/-- what raises nothing raises nothing of any kind -/
theorem fn_lift (F : FnOk P w K mg base CX0 k f fd ps sp) : FnOk P w K mg base CX k f fd ps sp :=
  ⟨F.len, fun A outer s H args us vs Q E hr he hb hv h => codeAny_mono (F.run A outer s H args us vs Q E hr he hb hv h) fun r s' q => by
    cases r with
    | error e => exact False.elim q
    | ok fl => cases fl <;> first | exact q | exact False.elim q⟩
/-- where no error is wished for, none leaves -/
theorem fn_calm (F : FnOk P w K mg base (L2.CX P w) k f fd ps sp) (h : ∀ vs H Q E, sp' vs H Q E → sp vs H Q E0) : FnOk P w K mg base CX0 k f fd ps sp' :=
  ⟨fun vs H Q E q => F.len vs H Q E0 (h _ _ _ _ q), fun A outer s H args us vs Q E hr he hb hv q => codeAny_mono (F.run A outer s H args us vs Q E0 hr he hb hv (h _ _ _ _ q)) fun r s' z => by
    cases r with
    | error e =>
      obtain ⟨_, _, _, _, _, _, _, _, _, _, _, _, z⟩ := z
      exact z
    | ok fl => cases fl <;> first | exact z | exact False.elim z⟩
end

section
variable {P : Program} {w : World} {K : PySem.W.Frag} {mg : Str → Option Value} {base : Heap} {k k' : Nat} {x : Str} {ps : List Str} {sp sp' : Sp} {CX : CXT}
theorem Cal.mono (c : Cal P w K mg base CX k x ps sp) (h : k ≤ k' := by decide) : Cal P w K mg base CX k' x ps sp := by
  obtain ⟨f, fd, a, b, c, F⟩ := c.ex
  exact ⟨f, fd, a, b, c, F.mono h⟩
theorem Cal.imp (c : Cal P w K mg base CX k x ps sp) (h : ∀ vs H Q E, sp' vs H Q E → sp vs H Q E) : Cal P w K mg base CX k x ps sp' := by
  obtain ⟨f, fd, a, b, c, F⟩ := c.ex
  exact ⟨f, fd, a, b, c, F.imp h⟩
theorem Cal.calm (c : Cal P w K mg base (L2.CX P w) k x ps sp) (h : ∀ vs H Q E, sp' vs H Q E → sp vs H Q E0) : Cal P w K mg base CX0 k x ps sp' := by
  obtain ⟨f, fd, a, b, c, F⟩ := c.ex
  exact ⟨f, fd, a, b, c, fn_calm F h⟩
theorem Cal.lift (c : Cal P w K mg base CX0 k x ps sp) : Cal P w K mg base CX k x ps sp := by
  obtain ⟨f, fd, a, b, c, F⟩ := c.ex
  exact ⟨f, fd, a, b, c, fn_lift F⟩
end

/-- a method of the class at C by its name -/
structure CalM (P : Program) (w : World) (K : PySem.W.Frag) (mg : Str → Option Value) (base : Heap) (CX : CXT) (k : Nat) (C : Addr) (m : Str) (ps : List Str) (sp : Sp) : Prop where
  ex : ∃ (f : Addr) (fd : FuncData), Meth K C m f ∧ Binds K fd ps [] ∧ FnOk P w K mg base CX k f fd ps sp
/-- a property of it -/
structure CalP (P : Program) (w : World) (K : PySem.W.Frag) (mg : Str → Option Value) (base : Heap) (CX : CXT) (k : Nat) (C : Addr) (m : Str) (ps : List Str) (sp : Sp) : Prop where
  ex : ∃ (p f : Addr) (fd : FuncData), PropOf K C m p f ∧ Binds K fd ps [] ∧ FnOk P w K mg base CX k f fd ps sp
/-- its making -/
structure CalN (P : Program) (w : World) (K : PySem.W.Frag) (mg : Str → Option Value) (base : Heap) (CX : CXT) (k : Nat) (C : Addr) (x : Str) (ps : List Str) (sp : Sp) : Prop where
  ex : ∃ (f : Addr) (fd : FuncData), mg x = some (.ref C) ∧ Mk K C f ∧ Binds K fd ps [] ∧ FnOk P w K mg base CX k f fd ps sp
theorem CalM.calm {P : Program} {w : World} {K : PySem.W.Frag} {mg : Str → Option Value} {base : Heap} {k : Nat} {C : Addr} {x : Str} {ps : List Str} {sp sp' : Sp} (c : CalM P w K mg base (L2.CX P w) k C x ps sp) (h : ∀ vs H Q E, sp' vs H Q E → sp vs H Q E0) : CalM P w K mg base CX0 k C x ps sp' := by
  obtain ⟨f, fd, a, b, F⟩ := c.ex
  exact ⟨f, fd, a, b, fn_calm F h⟩
section
variable {X : Cx} {CX : CXT} {j k : Nat} {C : Addr} {x m : Str} {ps : List Str} {sp : Sp} {E : XK} {e o : Expr} {es : List Expr} {ta : TE} {t : TA} {p pos apos : Pos}
theorem pe_cal0 (c : Cal X.prog X.w X.K X.mg X.base CX j x ps sp) (hr : Room k X.A) (hg : Gl X x) (hx : Passes CX X E) (hk : j ≤ k := by decide) (hdb : (x == ("__debug__" : Str)) = false := by decide) :
    PE X (.Call (.Name x p) [] [] pos) (tCal sp E tNil) := by
  obtain ⟨f, fd, hm, kp, hb, F⟩ := c.ex
  refine ⟨fun pins s σ H Q I h => (pe_call0 (dvs := []) F (hr.mono hk) hg hm kp hb .nil hx hdb).run pins s σ H Q I ?_⟩
  exact h
def tMth (C : Addr) (m : Str) (sp : Sp) (E : XK) (ta : TE) (t : TA) : TE := fun σ H Q => ta σ H fun x H1 => ∃ a dx fs, x = .ref a ∧ H1 a = some (.ins C dx fs) ∧ fs.lookup m = none ∧ t σ H1 fun vs H2 => sp (x :: vs) H2 Q E
theorem pe_mth {pl : Sem Bool} (c : CalM X.prog X.w X.K X.mg X.base CX j C m ps sp) (cl : Cls X.K C) (hr : Room k X.A) (hx : Passes CX X E) (he : PE X o ta) (ha : PA X (e :: es) t) (hk : j ≤ k := by decide)
    (hst : starEach (e :: es) X.env = (false, eval e X.env) :: starEach es X.env := by rfl) (hpl : (backTo pos (starEach es X.env)).any (·.1) = false := by rfl)
    (ht : eval (.Call (.Attribute o m apos) (e :: es) [] pos) X.env = (do
      let ov ← eval o X.env
      standAt apos.atName
      let (f, first) ← holding [ov] (getMethod ov m pl)
      callWith pos f first (backTo pos (starEach (e :: es) X.env)) (backToKw pos (keywordEach [] X.env))) := by rfl) :
    PE X (.Call (.Attribute o m apos) (e :: es) [] pos) (tMth C m sp E ta t) := by
  obtain ⟨f, fd, hm, hb, F⟩ := c.ex
  refine ⟨fun pins s σ H Q I h => (pe_meth (dvs := []) (ds := []) he cl hm F (hr.mono hk) hb .nil hx ha hst hpl ht).run pins s σ H Q I ?_⟩
  have e1 : tMeth C m sp [] E ta t = tMth C m sp E ta t := by
    funext σ H Q
    unfold tMeth tMth
    simp only [List.append_nil]
  rw [e1]
  exact h
theorem pe_mth0 {pl : Sem Bool} (c : CalM X.prog X.w X.K X.mg X.base CX j C m ps sp) (cl : Cls X.K C) (hr : Room k X.A) (hx : Passes CX X E) (he : PE X o ta) (hk : j ≤ k := by decide)
    (ht : eval (.Call (.Attribute o m apos) [] [] pos) X.env = (do
      let ov ← eval o X.env
      standAt apos.atName
      let (f, first) ← holding [ov] (getMethod ov m pl)
      callWith pos f first (backTo pos (starEach [] X.env)) (backToKw pos (keywordEach [] X.env))) := by rfl) :
    PE X (.Call (.Attribute o m apos) [] [] pos) (tMth C m sp E ta tNil) := by
  obtain ⟨f, fd, hm, hb, F⟩ := c.ex
  refine ⟨fun pins s σ H Q I h => (pe_meth0 (dvs := []) (ds := []) he cl hm F (hr.mono hk) hb .nil hx ht).run pins s σ H Q I ?_⟩
  have e1 : tMeth C m sp [] E ta tNil = tMth C m sp E ta tNil := by
    funext σ H Q
    unfold tMeth tMth
    simp only [List.append_nil]
  rw [e1]
  exact h
/-- o.m(e, ..) in a try's body -/
def tMthS (C : Addr) (m : Str) (sp : Sp) (E : L2.St → XK) (ta : TE) (t : TA) : TE := fun σ H Q => ta σ H fun x H1 => ∃ a dx fs, x = .ref a ∧ H1 a = some (.ins C dx fs) ∧ fs.lookup m = none ∧ t σ H1 fun vs H2 => sp (x :: vs) H2 Q (E σ)
theorem pe_mthS {E : L2.St → XK} {pl : Sem Bool} (c : CalM X.prog X.w X.K X.mg X.base CX j C m ps sp) (cl : Cls X.K C) (hr : Room k X.A) (hx : ∀ σ, PassesAt CX X σ (E σ)) (he : PE X o ta) (ha : PA X (e :: es) t) (hk : j ≤ k := by decide)
    (hst : starEach (e :: es) X.env = (false, eval e X.env) :: starEach es X.env := by rfl) (hpl : (backTo pos (starEach es X.env)).any (·.1) = false := by rfl)
    (ht : eval (.Call (.Attribute o m apos) (e :: es) [] pos) X.env = (do
      let ov ← eval o X.env
      standAt apos.atName
      let (f, first) ← holding [ov] (getMethod ov m pl)
      callWith pos f first (backTo pos (starEach (e :: es) X.env)) (backToKw pos (keywordEach [] X.env))) := by rfl) :
    PE X (.Call (.Attribute o m apos) (e :: es) [] pos) (tMthS C m sp E ta t) := by
  obtain ⟨f, fd, hm, hb, F⟩ := c.ex
  refine ⟨fun pins s σ H Q I h => ?_⟩
  refine PySem.W.methodCall_KW (pl := pl) (thn (he.run pins s σ H _ I h) fun u s1 ⟨x, H1, I1, rx, a, dx, fs, ex, ea, l, q⟩ => ?_) ht
  subst ex
  obtain rfl : u = Value.ref a := rx
  refine getmeth_ok I1 ea cl hm l ?_
  refine PySem.W.callWith_K (first := [.ref a]) (h₀ := X.base) I1.ok.mod.kin hm.kp (thn (ha.run pos pins s1 σ H1 _ I1 q) fun us s2 ⟨vs, H2, I2, r, q2⟩ => ⟨I2.kIn, ?_⟩) hst hpl
  exact run_fnS (us := .ref a :: us) (vs := .ref a :: vs) F (hr.mono hk) hb (hx σ) I2 (.cons rfl r) q2
/-- o.f, a property -/
def tPrp (C : Addr) (sp : Sp) (ta : TE) : TE := fun σ H Q => ta σ H fun x H1 => ∃ a dx fs, x = .ref a ∧ H1 a = some (.ins C dx fs) ∧ sp [.ref a] H1 Q E0
theorem pe_prp (c : CalP X.prog X.w X.K X.mg X.base CX0 j C m ps sp) (cl : Cls X.K C) (hr : Room k X.A) (he : PE X e ta) (hk : j + 1 ≤ k := by decide) (hab : attributeBase e m X.env (eval e X.env) = eval e X.env := by rfl) :
    PE X (.Attribute e m pos) (tPrp C sp ta) := by
  obtain ⟨p, f, fd, hp, hb, F⟩ := c.ex
  exact pe_prop (dvs := []) (ds := []) he cl hp F (hr.mono hk) hb .nil pass0 hab
/-- C(e, ..) -/
def tMak (C : Addr) (sp : Sp) (E : XK) (t : TA) : TE := fun σ H Q => t σ H fun vs H1 => ∀ x dx, H1 x = none → H1 dx = none → dx ≠ x → sp (.ref x :: vs) (upd (upd H1 dx (.own x)) x (.ins C dx [])) (fun v H2 => v = .non ∧ Q (.ref x) H2) E
theorem pe_mak (c : CalN X.prog X.w X.K X.mg X.base CX j C x ps sp) (hr : Room k X.A) (hg : Gl X x) (hx : Passes CX X E) (ha : PA X (e :: es) t) (hk : j + 1 ≤ k := by decide) (hdb : (x == ("__debug__" : Str)) = false := by decide)
    (he : starEach (e :: es) X.env = (false, eval e X.env) :: starEach es X.env := by rfl) (hpl : (backTo pos (starEach es X.env)).any (·.1) = false := by rfl) :
    PE X (.Call (.Name x p) (e :: es) [] pos) (tMak C sp E t) := by
  obtain ⟨f, fd, hm, M, hb, F⟩ := c.ex
  refine ⟨fun pins s σ H Q I h => (pe_make (dvs := []) (ds := []) M F (hr.mono hk) hg hm hb .nil hx ha hdb he hpl).run pins s σ H Q I ?_⟩
  have e1 : tMake C sp [] E t = tMak C sp E t := by
    funext σ H Q
    unfold tMake tMak
    simp only [List.append_nil]
  rw [e1]
  exact h
/-- len(o), o of an own class with __len__ -/
def rLenO (C : Addr) (sp : Sp) : List V → Hp → VK → Prop := fun vs H Q => ∃ a dx fs, vs = [V.ref a] ∧ H a = some (.ins C dx fs) ∧ sp [.ref a] H (fun v H' => ∃ n : Int, v = .int n ∧ 0 ≤ n ∧ n < 2 ^ 63 ∧ Q (.int n) H') E0
theorem call_lenO (c : CalM X.prog X.w X.K X.mg X.base CX0 j C "__len__" ps sp) (hr : Room k X.A) (hk : j + 1 ≤ k := by decide) : CallR X (.builtin "len") (rLenO C sp) := by
  obtain ⟨f, fd, hm, hb, F⟩ := c.ex
  intro pins s σ H vs us Q I r h
  obtain ⟨a, dx, fs, rfl, ea, q⟩ := h
  rw [Vals.ref1 r]
  obtain ⟨mA, O, _, _, _, _⟩ := ins_get I.hok ea
  obtain ⟨od, J, _⟩ := O.look
  have hr1 : Room j X.A.in1 := (hr.mono hk).in1
  refine Calls.call_function_entry kind_len plain_len entry_len (args_len1 _) ?_
  unfold Builtin.«len»
  refine wpAny_bind (m := oneArg "len" _) (wpAny_pure ?_)
  have hl : ([Value.ref a] ++ ([] : List Value)).length = ps.length := by
    rw [← F.len _ _ _ _ q]
    rfl
  have b := hb s [.ref a] I.kIn hl
  refine wpAny_bind (m := callSpecial? (.ref a) (Str.ofString "__len__")) (PySem.W.special_fn I.kIn J hm.at_ (beq_iff_eq.mp hm.fn) (wpAny_call (codeAny_mono (F.run X.A.in1 X.stack s H ⟨[.ref a], []⟩ [.ref a] [.ref a] _ E0 hr1 I.env0.in1 b (.cons rfl .nil) q) fun r s' hq => ?_)))
  cases r with
  | error er => exact False.elim hq
  | ok fl =>
    cases fl with
    | ret u =>
      obtain ⟨v, H', I3, rv, n, rfl, h0, h1, q3⟩ := I.after hq
      obtain ⟨t, rfl⟩ := rv
      refine wpAny_bind (wpAny_holding (wpAny_pure ?_))
      refine wpAny_bind (wpAny_letGo ?_)
      show wpAny _ _ (if n < 0 then _ else _) _ _ _
      rw [if_neg (by omega)]
      show wpAny _ _ (if n ≥ 2 ^ 63 then _ else _) _ _ _
      rw [if_neg (by omega)]
      exact wpAny_bind (wpAny_mkInt (wpAny_pure ⟨_, rfl, .int n, H', I3.tok _, ⟨_, rfl⟩, q3⟩))
    | next => exact False.elim hq
    | brk => exact False.elim hq
    | cont => exact False.elim hq
/-- t.count(k), a tuple of ints -/
def rCntT (K : PySem.W.Frag) : V → List V → Hp → VK → Prop := fun x xs H Q => ∃ (p : Addr) (ns : List Int) (k : Int), x = .ref p ∧ xs = [.int k] ∧ SqT K H p (ns.map V.int) ∧ Q (.int (ns.count k : Nat)) H
theorem mt_tcount : MtR X "tuple.count" (rCntT X.K) := by
  intro pins s σ H x xs v us Q I rx rxs h
  obtain ⟨p, ns, k, rfl, rfl, hs, q⟩ := h
  cases rx
  obtain ⟨u, rfl, ru⟩ := rxs.one
  obtain ⟨t, rfl⟩ := ru
  obtain ⟨its, rv, ⟨⟨cls, dd, data, sl⟩, ho, hc, n, hd⟩, hlen⟩ := I.tuple hs
  simp only at hc hd
  subst hc hd
  have hi := ints_of_vals rv
  refine call_meets PySem.F.slot_tuple_count ⟨_, ho, rfl⟩ PySem.F.entry_tuple_count (PySem.F.args_tuple_count_2 _ _)
    (SeqAt.tuple_countAt p its.toArray n dd sl (.int k t) (eqk k)) ⟨ho, fun y hy => (eqk_gives hi y (by simpa using hy)).at _ _, ?_⟩
  have ec : its.toArray.toList.countP (eqk k) = ns.count k := eqk_count hi
  refine ⟨.int (ns.count k : Nat), H, I.tok _, ⟨s.toks, ?_⟩, q⟩
  show Value.int ((its.toArray.toList.countP (eqk k) : Nat) : Int) s.toks = Value.int ((ns.count k : Nat) : Int) s.toks
  rw [ec]
end

theorem exm_self {K : PySem.W.Frag} {S : Addr} (b : PySem.W.subIn K (.ref S) (.type "BaseException") = some true) (i : PySem.W.isClsIn K S = true)
    (t : PySem.W.typeIn K (.ref S) = some (.type "type")) (s : PySem.W.subIn K (.ref S) (.ref S) = some true) : PySem.W.exmOne K (.ref S) (.ref S) = some true := by
  have i' : (PySem.W.clsIn K S).isSome = true := i
  have g1 : (PySem.W.subIn K (.ref S) (.type "BaseException") == some true) = true := by rw [b]; rfl
  have g2 : ((PySem.W.clsIn K S).isSome && PySem.W.typeIn K (.ref S) == some (.type "type")) = true := by rw [i', t]; rfl
  show (if (_ : Bool) = true then (if (_ : Bool) = true then PySem.W.subIn K (.ref S) (.ref S) else none) else none) = some true
  rw [if_pos g1, if_pos g2]
  exact s
theorem units64 {k : Nat} {A : Around} (r : Room k A) : A.units + 64 < cLine := by
  have := r.un
  omega
theorem units65 {k : Nat} {A : Around} (r : Room k A) : A.units + 65 < cLine := by
  have := r.un
  omega
/-- a test whose answer is shown apart -/
theorem ifF {c : Bool} {a b : Prop} (h : c = false) (g : b) : (if c = true then a else b) := by
  rw [h]
  exact g
theorem ifT {c : Bool} {a b : Prop} (h : c = true) (g : a) : (if c = true then a else b) := by
  rw [h]
  exact g
/-! ### tuples that bear no dict: their methods can be called -/
def TupZ (H : Hp) (a : Addr) (xs : List V) : Prop := ∃ o : Obj, o.dict = none ∧ H a = some (.frz o (.tup xs))
theorem TupZ.sq {K : PySem.W.Frag} {H : Hp} {a : Addr} {xs : List V} (h : TupZ H a xs) : SqT K H a xs := by
  obtain ⟨o, _, h⟩ := h
  exact .inl (.inr ⟨o, h⟩)
theorem TupZ.same {H H' : Hp} {a : Addr} {xs : List V} (s : Same H H') (h : TupZ H a xs) : TupZ H' a xs := by
  obtain ⟨o, d, h⟩ := h
  exact ⟨o, d, s _ _ h⟩
section
variable {X : Cx} {es : List Expr} {t : TA} {pos : Pos}
def tTupZ (t : TA) : TE := fun σ H Q => t σ H fun xs H1 => xs.length ≤ sizeLine ∧ ∀ p o, H1 p = none → o.dict = none → Q (.ref p) (upd H1 p (.frz o (.tup xs)))
theorem pe_tupZ {x1} (h : PA X es t) : PE X (.Tuple es x1 pos) (tTupZ t) := by
  refine ⟨fun pins s σ H Q I hq => ?_⟩
  refine wpAny_Tuple_spliced (thn (h.run pos pins s σ H _ I hq) fun us s1 ⟨xs, H1, I1, r, z, q⟩ => ⟨by rw [← r.length]; exact z, ?_⟩)
  have hf : H1 s1.heap.objs.size = none := I1.hok.fresh (Nat.le_refl _)
  have hd : ({ cls := .type "tuple", data := .seq us.toArray } : Obj).dict = none := rfl
  refine ⟨.ref s1.heap.objs.size, upd H1 s1.heap.objs.size (.frz { cls := .type "tuple", data := .seq us.toArray } (.tup xs)), I1.laid (t' := s1.toks) (fun b u e => Heap.get?_push_of_some _ e) (Nat.le_refl _) ?_, rfl, q _ _ hf hd⟩
  exact ⟨Heap.get?_push_size _ rfl, z, us, r, ⟨_, Heap.get?_push_size _ rfl, rfl, _, rfl⟩⟩
/-- tuple(x) of a list -/
def rTupleZ (K : PySem.W.Frag) : List V → Hp → VK → Prop := fun xs H Q => ∃ p ys, xs = [V.ref p] ∧ SqL K H p ys ∧ ∀ l o, H l = none → o.dict = none → Q (.ref l) (upd H l (.frz o (.tup ys)))
theorem call_tupleZ : CallR X (.type "tuple") (rTupleZ X.K) := by
  intro pins s σ H xs us Q I r h
  obtain ⟨p, ys, rfl, hq, q⟩ := h
  rw [Vals.ref1 r]
  obtain ⟨its, r', pl, hz⟩ := I.list hq
  have hlen := r'.length
  refine call_tuple_list pl.isList (fun h' kp => ?_) (by simp only [List.size_toArray] <;> omega)
  have I1 : Inv X pins σ H { s with heap := h' } := I.kept (t' := s.toks) kp
  have I2 : Inv X pins σ (upd H h'.objs.size (.frz { cls := .type "tuple", data := .seq its.toArray } (.tup ys))) { s with heap := h'.push { cls := .type "tuple", data := .seq its.toArray } } :=
    I1.laid (t' := s.toks) (fun b o e => Heap.get?_push_of_some _ e) (Nat.le_refl _) (show ObjOk X.prog X.w _ _ _ (.frz _ (.tup ys)) from ⟨Heap.get?_push_size _ rfl, hz, its, r', IsTup.new _ _⟩)
  exact ⟨.ref h'.objs.size, _, I2, rfl, q _ _ (I1.hok.fresh (Nat.le_refl _)) rfl⟩
/-- o.m(e, ..), o such a tuple -/
def tBMT (r : V → List V → Hp → VK → Prop) (to : TE) (t : TA) : TE := fun σ H Q => to σ H fun x H1 => (∃ a xs, x = .ref a ∧ TupZ H1 a xs) ∧ t σ H1 fun vs H2 => r x vs H2 Q
theorem pe_bmT {o e : Expr} {to : TE} {name : Str} {apos cpos : Pos} {id : String} {r : V → List V → Hp → VK → Prop} (pa : PlainAttrs "tuple") (slot : Slot "tuple" name id) (hty : typeOf (.builtin id) = pure (.type "method_descriptor")) (hm : MtR X id r) (ho : PE X o to) (ha : PA X (e :: es) t)
    (hbase : attributeBase o name X.env (eval o X.env) = eval o X.env := by rfl)
    (hfew : ((backTo cpos (starEach (e :: es) X.env)).all (fun x => !x.1) && (backToKw cpos (keywordEach [] X.env)).all (fun x => x.1.isSome)
      && decide ((e :: es).length + ([] : List Keyword).length + (if ([] : List Keyword).isEmpty then 0 else 1) < 30)) = true := by rfl)
    (hline : (apos.endLine == cpos.line) = true := by rfl) (hs : starEach (e :: es) X.env = (false, eval e X.env) :: starEach es X.env := by rfl) (hplain : (backTo cpos (starEach es X.env)).any (·.1) = false := by rfl) :
    PE X (.Call (.Attribute o name apos) (e :: es) [] cpos) (tBMT r to t) := by
  refine ⟨fun pins s σ H Q I h => ?_⟩
  refine wpAny_Call_method_late hbase hfew hline rfl (thn (ho.run pins s σ H _ I h) fun v s1 ⟨x, H1, I1, r1, ⟨a, xs, ex, ob, hd, hA⟩, q1⟩ => ?_)
  subst ex
  obtain rfl : v = Value.ref a := r1
  obtain ⟨hg, _, its, rv, o2, h2, hc, n, hdt⟩ := (show ObjOk X.prog X.w H1 s1.heap a (.frz ob (.tup xs)) from I1.hok a _ hA)
  have e2 : o2 = ob := Option.some.inj (h2.symm.trans hg)
  subst e2
  refine ⟨"tuple", id, pa, slot, hty, ⟨_, hg, hc⟩, fun b eb => ?_, ?_⟩
  · cases eb
    exact ⟨_, hg, hd⟩
  have hA := ha.run cpos pins s1 σ H1 _ I1 q1
  rw [hs] at hA ⊢
  refine Calls.callWith_builtin (by show (false || (backTo cpos (starEach es X.env)).any (·.1)) = false; rw [hplain] <;> rfl) (Calls.evalArgs_plain ?_)
  exact thn hA fun us s2 ⟨vs, H2, I2, r2, q2⟩ => hm pins s2 σ H2 (.ref a) vs (.ref a) us Q I2 rfl r2 q2
end
/-- a new tuple handed back: that it bears no dict is forgotten -/
theorem ok_thaw {P : Program} {w : World} {H : Hp} {h : Heap} {a : Addr} {o : Obj} {xs : List V} (ok : HOk P w H h) (ha : H a = some (.frz o (.tup xs))) : HOk P w (upd H a (.tup xs)) h := fun b u e => by
  by_cases q : b = a
  · subst q
    rw [upd_same] at e
    cases e
    obtain ⟨_, z⟩ := (show ObjOk P w H h b (.frz o (.tup xs)) from ok b _ ha)
    exact z
  · rw [upd_ne q] at e
    exact (ok b u e).stay (fun c v _ r => r) (fun c r => by rw [upd_ne (ne_of r ha (by intro z; cases z))]; exact r) fun c ys r => by rw [upd_ne (ne_of r ha (by intro z; cases z))]; exact r
theorem un_thaw {fs ex : List Addr} {H H' : Hp} {h h' : Heap} {a : Addr} {o : HO} (u : Un fs ex H H' h h') (h0 : H a = none) (hs : ∃ v, H' a = some v) : Un fs ex H (upd H' a o) h h' :=
  ⟨u.keep, u.slot, fun b ob q n hx => by
    have z := u.free b ob q n hx
    by_cases e : b = a
    · subst e
      obtain ⟨v, hv⟩ := hs
      rw [hv] at z
      cases z
    · rw [upd_ne e]
      exact z, u.there, fun b xs e => by rw [upd_ne (ne_of_none e h0)]; exact u.tups b xs e, fun b ob v e => by rw [upd_ne (ne_of_none e h0)]; exact u.frzs b ob v e, fun b ps e => by
    obtain ⟨more, z⟩ := u.tbls b ps e
    exact ⟨more, by rw [upd_ne (ne_of_none e h0)]; exact z⟩⟩
theorem fn_thaw {P : Program} {w : World} {K : PySem.W.Frag} {mg : Str → Option Value} {base : Heap} {k : Nat} {f : Addr} {fd : FuncData} {ps : List Str} {sp sp' : Sp} {CX : CXT} (F : FnOk P w K mg base CX k f fd ps sp)
    (h : ∀ vs H Q E, sp' vs H Q E → sp vs H (fun v H' => ∃ a o xs, v = .ref a ∧ H a = none ∧ H' a = some (.frz o (.tup xs)) ∧ Q v (upd H' a (.tup xs))) E) : FnOk P w K mg base CX k f fd ps sp' :=
  ⟨fun vs H Q E q => F.len vs H _ E (h _ _ _ _ q), fun A outer s H args us vs Q E hr he hb hv q => codeAny_mono (F.run A outer s H args us vs _ E hr he hb hv (h _ _ _ _ q)) fun r s' z => by
    cases r with
    | error e => exact z
    | ok fl =>
      cases fl with
      | ret u =>
        obtain ⟨v, H', z1, z2, z3, z4, z5, a, o, xs, rfl, h0, h1, q'⟩ := z
        exact ⟨_, _, z1, z2, un_thaw z3 h0 ⟨_, h1⟩, ok_thaw z4 h1, z5, q'⟩
      | next => exact z
      | brk => exact z
      | cont => exact z⟩
theorem Cal.thaw {P : Program} {w : World} {K : PySem.W.Frag} {mg : Str → Option Value} {base : Heap} {k : Nat} {x : Str} {ps : List Str} {sp sp' : Sp} {CX : CXT} (c : Cal P w K mg base CX k x ps sp)
    (h : ∀ vs H Q E, sp' vs H Q E → sp vs H (fun v H' => ∃ a o xs, v = .ref a ∧ H a = none ∧ H' a = some (.frz o (.tup xs)) ∧ Q v (upd H' a (.tup xs))) E) : Cal P w K mg base CX k x ps sp' := by
  obtain ⟨f, fd, a, b, c, F⟩ := c.ex
  exact ⟨f, fd, a, b, c, fn_thaw F h⟩
theorem same_thaw {H H' : Hp} {a : Addr} {o : HO} (s : Same H H') (h : H a = none) : Same H (upd H' a o) := same_upd s h
end Hd
set_option maxHeartbeats 4000000
/-! enumerate of a tuple. -/
namespace Hd
open PySem PySem.Spec PyProof.Rows L2
open AutoSeq1 (wpAny_loadPart')
theorem enumNewT (q : Addr) (zs : Array Value) (m : Nat) (od : Option Addr) (so : Array (Option Value)) :
    Meets (Builtin.«enumerate.__new__» ⟨[.type "enumerate", .ref q], []⟩) (fun _ R s =>
      s.heap.get? q = some { cls := .type "tuple", dict := od, data := .seq zs m, slots := so } ∧
      R (.ok (.ret (.ref (s.heap.push { cls := .type "tuple_iterator", data := .fields #[.ref q, .int 0 0] }).objs.size)))
        ⟨(s.heap.push { cls := .type "tuple_iterator", data := .fields #[.ref q, .int 0 0] }).push
              { cls := .type "enumerate", data := .fields #[.none, .bool false, .ref s.heap.objs.size, rawInt 0, .none, .none] }, s.gens, s.drawn, s.toks, s.os⟩) :=
  .of_wp fun P0 w0 A0 R0 s0 k0 => by
    obtain ⟨h0, g0, d0, t0, o0⟩ := s0
    obtain ⟨hq, k0⟩ := k0
    have subE := sub_enumerate
    have isT : Heap.IsTuple (Shared.heap ⟨h0, g0, d0, t0, o0⟩) q zs := ⟨_, hq, rfl, m, rfl⟩
    wp_walk using wpAny_loadPart' hq
    refine wpAny_stack_any fun _ => wpAny_pure ?_
    split
    · rename_i c _ _ _ _ _
      cases (c == Value.type "enumerate") <;> (wp_walk using wpAny_loadPart' hq, wpAny_pyIter_tuple isT; exact ⟨_, rfl, k0⟩)
    · wp_walk using wpAny_loadPart' hq, wpAny_pyIter_tuple isT
      exact ⟨_, rfl, k0⟩
theorem enumCallT {prog : Program} {w : World} {A : Around} {E : Value → Shared → Prop} {s : Shared} {q : Addr} {zs : Array Value} {Q : Value → Shared → Prop} (isT : s.heap.IsTuple q zs)
    (k : ∀ h', IsEnum h' (s.heap.objs.size + 1) s.heap.objs.size 0 .none → h'.IsTupleIter s.heap.objs.size q 0 → (∀ b o, s.heap.get? b = some o → h'.get? b = some o) → Q (.ref (s.heap.objs.size + 1)) { s with heap := h' }) :
    wpAny (model prog w) A (call (.type "enumerate") [.ref q]) Q E s := by
  obtain ⟨⟨oc, od, dt, so⟩, hq, hc, m, hd⟩ := isT
  replace hc : oc = .type "tuple" := hc
  replace hd : dt = .seq zs m := hd
  subst hc hd
  refine callType_new F.called_enumerate (by decide) (F.typeCall_enumerate_1 _) (F.newCall_enumerate_1 _)
    (fun obj => F.args_object_init_2 obj _) F.entry_enumerate_new (enumNewT q zs m od so) ⟨hq, ?_⟩
  have hz : (s.heap.push { cls := .type "tuple_iterator", data := .fields #[.ref q, .int 0 0] }).objs.size = s.heap.objs.size + 1 := Heap.size_push ..
  show _ ∧ _
  rw [hz]
  have he : IsEnum ((s.heap.push { cls := .type "tuple_iterator", data := .fields #[.ref q, .int 0 0] }).push
      { cls := .type "enumerate", data := .fields #[.none, .bool false, .ref s.heap.objs.size, rawInt 0, .none, .none] })
      (s.heap.objs.size + 1) s.heap.objs.size 0 .none := by
    have := Heap.get?_push_size (s.heap.push { cls := .type "tuple_iterator", data := .fields #[.ref q, .int 0 0] })
      (o := { cls := .type "enumerate", data := .fields #[.none, .bool false, .ref s.heap.objs.size, rawInt 0, .none, .none] }) rfl
    rw [hz] at this
    exact this
  exact ⟨⟨_, he, rfl⟩, k _ he ⟨({ cls := .type "tuple_iterator", data := .fields #[.ref q, .int 0 0] } : Obj), Heap.get?_push_of_some _ (Heap.get?_push_size _ rfl), rfl, rfl⟩
    fun b o x => Heap.get?_push_of_some _ (Heap.get?_push_of_some _ x)⟩
/-- the tuple at a, each item in a new pair -/
def IteT (K : PySem.W.Frag) (a : Addr) : It where
  go := fun i H => ∃ (xs : List V) (x : V), SqT K H a xs ∧ xs[i]? = some x
  yld := fun i H v H' => ∃ T x, v = .ref T ∧ H T = none ∧ H' = upd H T (.tup [.int (i : Nat), x]) ∧ ∀ xs, SqT K H a xs → xs[i]? = some x
  stop := fun i H => ∃ xs : List V, SqT K H a xs ∧ xs.length = i
theorem tupNe {h : Heap} {a it : Addr} {zs : Array Value} {i : Nat} (t : h.IsTuple a zs) (j : h.IsTupleIter it a i) : a ≠ it := fun z => by
  obtain ⟨o, h1, h2, _⟩ := t
  obtain ⟨o', h3, h4, _⟩ := j
  rw [z, h3] at h1
  cases h1
  rw [h2] at h4
  injection h4 with h5
  exact absurd h5 (by decide)
theorem enumNe {h : Heap} {a e it : Addr} {zs : Array Value} {c : Int} {v : Value} (t : h.IsTuple a zs) (j : IsEnum h e it c v) : e ≠ a := fun z => by
  obtain ⟨o, h1, h2, _⟩ := t
  have j' : h.get? e = some _ := j
  rw [z, h1] at j'
  have j2 := Option.some.inj j'
  rw [j2] at h2
  injection h2 with h5
  exact absurd h5 (by decide)
theorem turn_enumT {P : Program} {w : World} {K : PySem.W.Frag} {elts : List Expr} {kk : Nat} {tpos : Pos} (a e it : Addr) :
    Turn P w K (.Tuple elts kk tpos) (IteT K a) [e, it] e (fun i h => (∃ old, IsEnum h e it ((i : Nat) : Int) old) ∧ h.IsTupleIter it a i ∧ e ≠ it) where
  mem := List.mem_cons_self
  obj := fun i h st b hb => by
    obtain ⟨⟨old, he⟩, ⟨o, ho, hc, hd⟩, _⟩ := st
    rcases (show b = e ∨ b = it by simpa using hb) with z | z
    · subst z
      exact ⟨_, he, fun v q => nomatch q⟩
    · subst z
      exact ⟨o, ho, fun v q => by rw [hd] at q; cases q⟩
  keep := fun i h h' st k => by
    obtain ⟨⟨old, he⟩, hi, hne⟩ := st
    exact ⟨⟨old, k e (by simp) _ he⟩, hi.at fun o q => k it (by simp) o q, hne⟩
  item := by
    intro X hP hw hK hc i pins s σ H E I hf st hg
    subst hP hw hK
    obtain ⟨⟨old, he⟩, hit, hne⟩ := st
    obtain ⟨xs, x, hq, hx⟩ := hg
    obtain ⟨its, rv, p, hz⟩ := I.tuple hq
    have isT : s.heap.IsTuple a its.toArray := p
    have hel : e < s.heap.objs.size := Heap.lt_size he
    have hil : it < s.heap.objs.size := by
      obtain ⟨_, q, _⟩ := hit
      exact Heap.lt_size q
    have hai := tupNe isT hit
    have hea := enumNe isT he
    have hlt : i < its.toArray.size := by
      have z := (List.getElem?_eq_some_iff.mp hx).1
      have l := rv.length
      simp
      omega
    have D := Draws.tuple (prog := X.prog) (w := X.w) (A := X.A.in1) (I.ok.hd hc) it a hai its.toArray
    refine wpAny_pyNext_enum_itemC D he ⟨hit, isT⟩ hlt hne (by simp [hne, hea]) fun u h' tk hu ho st' hT hsz hk => ?_
    refine ⟨_, rfl, wpAny_letOwnedTupleGo_enum (s := { s with heap := h', toks := tk + 1 }) ho fun h'' he' sb => ?_⟩
    obtain ⟨u', hu', ru⟩ := rv.get hx
    have euu : u' = u := by
      have z : its[i]? = some u := by simpa using hu
      rw [hu'] at z
      exact Option.some.inj z
    subst euu
    have hT2 : h''.get? s.heap.objs.size = some { cls := .type "tuple", data := .seq #[.int i tk, u'] } := (sb.2 _ (Nat.ne_of_gt hel)).trans hT
    have new : ObjOk X.prog X.w (upd H s.heap.objs.size (.tup [.int (i : Nat), x])) h'' s.heap.objs.size (.tup [.int (i : Nat), x]) :=
      ⟨by show 2 ≤ sizeLine; decide, [.int i tk, u'], .cons ⟨_, rfl⟩ (.cons ru .nil), ⟨_, hT2, rfl, _, rfl⟩⟩
    have J : Inv X pins σ (upd H s.heap.objs.size (.tup [.int (i : Nat), x])) { s with heap := h'', toks := tk + 1 } :=
      I.turnedNew (ch := [e, it]) (fun b ob hb q => (sb.2 b fun z => hb (by simp [z])).trans (hk b ob (fun z => hb (by simp [z])) (fun z => hb (by simp [z])) q)) hf (Nat.le_refl _) new
    refine ⟨.ref s.heap.objs.size, _, J, rfl, ⟨_, x, rfl, I.hok.fresh (Nat.le_refl _), rfl, fun ys hy => by rw [I.tuple_inj hy hq]; exact hx⟩,
      ⟨⟨u', ?_⟩, st'.1.at fun o q => (sb.2 it (Ne.symm hne)).trans q, hne⟩, fun b hb => ?_⟩
    · have e1 : ((i + 1 : Nat) : Int) = (i : Int) + 1 := by omega
      rw [e1]
      exact he'
    · have hb' : b < s.heap.objs.size := by
        rcases (show b = e ∨ b = it by simpa using hb) with z | z
        · rw [z]
          exact hel
        · rw [z]
          exact hil
      rw [upd_ne (Nat.ne_of_lt hb')]
      exact (hf b hb).1
  done := by
    intro X hP hw hK hc i pins s σ H E I hf st hg
    subst hP hw hK
    obtain ⟨⟨old, he⟩, hit, hne⟩ := st
    obtain ⟨xs, hq, hx⟩ := hg
    obtain ⟨its, rv, p, hz⟩ := I.tuple hq
    have isT : s.heap.IsTuple a its.toArray := p
    have hai := tupNe isT hit
    obtain ⟨f0, f1, f2, f3, f4, f5⟩ := hf it (by simp)
    have D := Draws.tuple (prog := X.prog) (w := X.w) (A := X.A.in1) (I.ok.hd hc) it a hai its.toArray
    have ei : its.toArray.size = i := by
      have l := rv.length
      simp
      omega
    refine wpAny_pyNext_enum_endD D he ⟨by rw [ei]; exact hit, isT⟩ fun h' eb => ⟨rfl, ?_⟩
    exact I.turned (t' := s.toks) (fun b o hb q => eb b o hb q) f0 f1 f3 f4 f5
  self := fun A i s Q E st k => by
    obtain ⟨⟨_, he⟩, _⟩ := st
    exact wpAny_pyIter_enum he k
def iEnumT (K : PySem.W.Frag) (ta : TA) : TI := fun σ H R => ta σ H fun vs H1 => ∃ a xs, vs = [.ref a] ∧ SqT K H1 a xs ∧ R (IteT K a) H1
theorem pi_enumT {X : Cx} {e : Expr} {ta : TA} {p pos tpos : Pos} {elts : List Expr} {kk : Nat} (hg : Gl X "enumerate") (hm : X.mg "enumerate" = none) (ha : PA X [e] ta)
    (hs : starEach [e] X.env = [(false, eval e X.env)] := by rfl) : PI X (.Tuple elts kk tpos) (.Call (.Name "enumerate" p) [e] [] pos) (iEnumT X.K ta) := by
  refine ⟨fun pins s σ H R I h => ?_⟩
  refine Call_ (ld_blt I hg hm boot_enumerate (PyProof.Rows.callWith_type1 (thn (ha.run pos pins s σ H _ I h) fun us s1 hh => ?_) hs rfl))
  obtain ⟨vs, H1, I1, r1, a, xs, ex, hq, q⟩ := hh
  subst ex
  rw [Vals.ref1 r1]
  obtain ⟨its, rv, p', hz⟩ := I1.tuple hq
  refine enumCallT (show s1.heap.IsTuple a its.toArray from p') fun h' he hit hk => wpAny_pyIter_enum he ?_
  have I2 : Inv X pins σ H1 { s1 with heap := h' } := I1.kept (t' := s1.toks) hk
  refine ⟨s1.heap.objs.size + 1, [s1.heap.objs.size + 1, s1.heap.objs.size], _, _, H1, rfl, I2, turn_enumT a (s1.heap.objs.size + 1) s1.heap.objs.size,
    ⟨⟨.none, he⟩, hit, Nat.succ_ne_self _⟩, fun b hb => ?_, q⟩
  have hle : s1.heap.objs.size ≤ b := by
    rcases (show b = s1.heap.objs.size + 1 ∨ b = s1.heap.objs.size by simpa using hb) with z | z
    · rw [z]
      exact Nat.le_add_right _ _
    · rw [z]
      exact Nat.le_refl _
  exact I1.fpOk hle (I1.hok.fresh hle)
theorem walk_enumT {K : PySem.W.Frag} {a : Addr} {xs : List V} : Walk (IteT K a) xs.length (fun H => SqT K H a xs) (YPair (fun i => some (.int (i : Nat))) (fun i => xs[i]?)) := by
  refine ⟨fun i _ hi q => ⟨xs, xs[i], q, by simp [hi]⟩, fun _ q => ⟨xs, q, rfl⟩, fun i H v H' _ q y => ?_⟩
  obtain ⟨T, x, h1, h2, h3, h4⟩ := y
  exact ⟨T, .int (i : Nat), x, h1, h2, h3, rfl, h4 xs q⟩
end Hd
set_option maxHeartbeats 4000000
/-! min and max of a tuple of ints. -/
namespace Hd
open PySem PySem.Spec PyProof.Rows L2
theorem reads_ints {h : Heap} : ∀ {us : List Value} {ns : List Int}, IntsAre us ns → ReadsAll h us (ns.map PyData.int) []
  | _, _, .nil => .nil
  | _, _, .cons n t r => ReadsAll.cons (as := []) (bs := []) (.int n t) (reads_ints r)
theorem deep_ints : ∀ ns : List Int, PyData.depthAll (ns.map PyData.int) = 0
  | [] => by simp [PyData.depthAll]
  | n :: ns => by
    have := deep_ints ns
    simp only [List.map_cons, PyData.depthAll, PyData.depth]
    omega
theorem alike_ints (ns : List Int) : PySem.W.AlikeAll (ns.map PyData.int) := by
  refine ⟨fun x hx y hy => ?_, fun x hx => ?_⟩
  · obtain ⟨n, _, rfl⟩ := List.mem_map.mp hx
    obtain ⟨m, _, rfl⟩ := List.mem_map.mp hy
    first | rfl | simp [PySem.W.alike]
  · obtain ⟨n, _, rfl⟩ := List.mem_map.mp hx
    intro z
    cases z
section
variable {X : Cx}
def rMinT (K : PySem.W.Frag) : List V → Hp → VK → Prop := fun vs H Q => ∃ (a : Addr) (n : Int) (ns : List Int), vs = [V.ref a] ∧ SqT K H a ((n :: ns).map V.int) ∧ Q (.int (ns.foldl min n)) H
def rMaxT (K : PySem.W.Frag) : List V → Hp → VK → Prop := fun vs H Q => ∃ (a : Addr) (n : Int) (ns : List Int), vs = [V.ref a] ∧ SqT K H a ((n :: ns).map V.int) ∧ Q (.int (ns.foldl max n)) H
theorem cr_minT (hc : X.calm = true) (hu : X.A.units + 64 < cLine) : CallR X (.builtin "min") (rMinT X.K) := by
  intro pins s σ H vs us Q I r h
  obtain ⟨a, n, ns, rfl, hs, q⟩ := h
  obtain ⟨its, rv, hl, _⟩ := I.tuple hs
  rw [Vals.ref1 r]
  refine PySem.W.min_tuple_data (x := .int n) (xs := ns.map PyData.int) (I.ok.hd hc) (show s.heap.IsTuple a its.toArray from hl) (by simpa using reads_ints (h := s.heap) rv.ints) (alike_ints (n :: ns)) ?_ fun i v h' tk bs hv hr hk => ?_
  · have := deep_ints (n :: ns)
    rw [List.map_cons] at this
    omega
  · rw [PySem.W.minD_ints] at hr
    cases hr with
    | int _ t => exact ⟨.int _, H, I.kept hk, ⟨t, rfl⟩, q⟩
theorem cr_maxT (hc : X.calm = true) (hu : X.A.units + 64 < cLine) : CallR X (.builtin "max") (rMaxT X.K) := by
  intro pins s σ H vs us Q I r h
  obtain ⟨a, n, ns, rfl, hs, q⟩ := h
  obtain ⟨its, rv, hl, _⟩ := I.tuple hs
  rw [Vals.ref1 r]
  refine PySem.W.max_tuple_data (x := .int n) (xs := ns.map PyData.int) (I.ok.hd hc) (show s.heap.IsTuple a its.toArray from hl) (by simpa using reads_ints (h := s.heap) rv.ints) (alike_ints (n :: ns)) ?_ fun i v h' tk bs hv hr hk => ?_
  · have := deep_ints (n :: ns)
    rw [List.map_cons] at this
    omega
  · rw [PySem.W.maxD_ints] at hr
    cases hr with
    | int _ t => exact ⟨.int _, H, I.kept hk, ⟨t, rfl⟩, q⟩
end
end Hd
set_option maxHeartbeats 4000000
/-! raise X() of an own class whose base's __init__ says super().__init__(). -/
namespace Hd
open PySem PySem.W PySem.Calls PyProof.Rows
/-- the scope of def __init__(self): super().__init__() -/
def hiScope : Scope := { kind := .function, names := [(PySem.Str.ofString "self", .local), (PySem.Str.ofString "__class__", .free), (PySem.Str.ofString "super", .globalImplicit)], isGenerator := false, isCoroutine := false, more := [] }
/-- the base's __init__ as the top leaves it: a def that closes over its class -/
structure SupDef (prog : Program) (K : Frag) (fI D : Addr) : Prop where
  ex : ∃ (oc : Value) (od an : Option Addr) (params : Arguments) (qual : Str) (dV kV doc pm ct : Value) (cc cda : Addr) (osl : Array (Option Value)) (p0 p1 ap cp ep : Pos) (ar : Arg)
      (ccl cl : Value) (cdd cld : Option Addr) (vs : Array Value) (ccs csl : Array (Option Value)) (file : Str) (tf : Tok) (cdD : ClassData),
    K.lookup fI = some ⟨oc, od, .func (fnX "__init__" qual params [.Expr (.Call (.Attribute (.Call (.Name "super" p0) [] [] p1) "__init__" ap) [] [] cp) ep] hiScope [("__class__", cc)] dV kV doc pm an (.ref cda) ct), osl⟩ ∧
    codeIn K (.ref cda) qual = true ∧ (params.posonlyargs ++ params.args).head? = some ar ∧ ar.arg = "self" ∧
    (∀ v : Value, bindArgs (fnX "__init__" qual params [.Expr (.Call (.Attribute (.Call (.Name "super" p0) [] [] p1) "__init__" ap) [] [] cp) ep] hiScope [("__class__", cc)] dV kV doc pm an (.ref cda) ct) ⟨[v], []⟩ = pure [(("self" : Str), v)]) ∧
    (∀ L : Addr, ∃ pl : Sem Bool, eval (.Call (.Attribute (.Call (.Name "super" p0) [] [] p1) "__init__" ap) [] [] cp) (callEnv (fnX "__init__" qual params [.Expr (.Call (.Attribute (.Call (.Name "super" p0) [] [] p1) "__init__" ap) [] [] cp) ep] hiScope [("__class__", cc)] dV kV doc pm an (.ref cda) ct) L fI) = (do
      let ov ← attributeBase (.Call (.Name "super" p0) [] [] p1) "__init__" (callEnv (fnX "__init__" qual params [.Expr (.Call (.Attribute (.Call (.Name "super" p0) [] [] p1) "__init__" ap) [] [] cp) ep] hiScope [("__class__", cc)] dV kV doc pm an (.ref cda) ct) L fI) (eval (.Call (.Name "super" p0) [] [] p1) (callEnv (fnX "__init__" qual params [.Expr (.Call (.Attribute (.Call (.Name "super" p0) [] [] p1) "__init__" ap) [] [] cp) ep] hiScope [("__class__", cc)] dV kV doc pm an (.ref cda) ct) L fI))
      standAt ap.atName
      let (f, first) ← holding [ov] (getMethod ov "__init__" pl)
      callWith cp f first (backTo cp (starEach [] (callEnv (fnX "__init__" qual params [.Expr (.Call (.Attribute (.Call (.Name "super" p0) [] [] p1) "__init__" ap) [] [] cp) ep] hiScope [("__class__", cc)] dV kV doc pm an (.ref cda) ct) L fI))) [])) ∧
    K.lookup cda = some ⟨ccl, cdd, .fields vs, ccs⟩ ∧ vs[2]? = some (.str file tf) ∧ ((prog.main.file : Str) == file) = true ∧
    K.lookup cc = some ⟨cl, cld, .cell (some (.ref D)), csl⟩ ∧ clsIn K D = some cdD
  tI : typeIn K (.ref fI) = some (.type "function")
  sup : nsIn K mainGlobals "super" = some none
  thr : nsIn K cStatics "thirdparty.any" = some none
  top : (prog.main.scope.names.lookup ("super" : Str)).isSome = false
/-- an own class under it -/
structure NilC (K : Frag) (C D fI : Addr) : Prop where
  cls : ∃ nm q N bs bm sn sub ab col dd k0 k1 k2 k3 k5, K.lookup C = some (excClassObj nm q C N bs bm true sn sub ab col dd k0 k1 k2 k3 k5 "ValueError.__new__") ∧ PySem.HandSPX.refsVE bm = true
  ini : findIn K (.ref C) "__init__" = some (some (.ref fI))
  sup : ks_superIn K C D "__init__" = some (some (.builtin "ValueError.__init__"))
  sub : mroIn K C (.ref D) = some true
  ve : subIn K (.ref C) (.type "ValueError") = some true
  xin : excInitIn K C [.type "ValueError", .type "Exception", .type "BaseException", .type "object"] "ValueError.__new__" = true
theorem boot_super : bootBuiltins "super" = some (.type "super") := by first | boot_by_name | decide +kernel | rfl
section
variable {prog : Program} {w : World} {A : Around} {R : Result → Shared → Prop} {s : Shared} {K : Frag} {mg mb : Str → Option Value} {C D fI : Addr}
/-- the call of the __init__ on an exception at x that is being made -/
theorem nil_init (S : SupDef prog K fI D) (T : NilC K C D fI) {x t0 : Addr} (X : K.In s.heap) (hxK : K.lookup x = none) (G : s.heap.Ns mainGlobals mg) (Bn : s.heap.Ns builtinsNs mb) (hbb : ∀ z : Str, z ≠ "__name__" → mb z = bootBuiltins z)
    (hlim : s.heap.NoLimit) (hx : s.heap.get? x = some (excObj C t0 none .none)) (hroom : A.depth < recursionLimit)
    (hq : ∀ h' tk t1, (∀ b o, b ≠ x → s.heap.get? b = some o → h'.get? b = some o) → h'.get? x = some (excObj C t1 none .none) → R (.ok (.ret .none)) ⟨h', s.gens, s.drawn, tk, s.os⟩) :
    codeAny (model prog w) A (.call (.ref fI) ⟨[.ref x], []⟩) R s := by
  obtain ⟨oc, od, an, params, qual, dV, kV, doc, pm, ct, cc, cda, osl, p0, p1, ap, cp, ep, ar, ccl, cl, cdd, cld, vs, ccs, csl, file, tf, cdD, lf, hcd, hp, har, hb, hev, lc, hvs, hfile, lcell, hD⟩ := S.ex
  obtain ⟨nm, q, N, bs, bm, sn, sub, ab, col, dd, k0', k1, k2, k3, k5, hC, hbm⟩ := T.cls
  have hsu : hiScope.names.lookup ("super" : Str) = some .globalImplicit := by decide +kernel
  have hcl : hiScope.names.lookup ("__class__" : Str) = some .free := by decide +kernel
  have hse : hiScope.names.lookup ("self" : Str) = some .local := by decide +kernel
  have hnc : ∀ y ∈ hiScope.names, y.2 ≠ .cell := by decide +kernel
  have hk : hiScope.kind = .function := rfl
  have hmg : mg "super" = none := mg_none_of X G S.sup
  obtain ⟨hp0, g, d, tk, os⟩ := s
  have k0 : ∀ b o, (hideAll hp0 [x]).get? b = some o → hp0.get? b = some o := fun b o e => of_hideAll _ e
  have hxn : (hideAll hp0 [x]).get? x = none := hideAll_none _ (by simp)
  have hle : (hideAll hp0 [x]).objs.size = hp0.objs.size := hideAll_size _ _
  have X₀ : K.In (hideAll hp0 [x]) := fun b o e => hideAll_get _ (X b o e) (by
    intro z
    have z' : b = x := by simpa using z
    rw [z', hxK] at e
    cases e)
  refine ks_codeAny_call_defAt (fd := fnX "__init__" qual params [.Expr (.Call (.Attribute (.Call (.Name "super" p0) [] [] p1) "__init__" ap) [] [] cp) ep] hiScope [("__class__", cc)] dV kV doc pm an (.ref cda) ct)
    (binds := [("self", .ref x)]) hroom (X _ _ lf) rfl hlim (codeRec_of X hcd) rfl (.of_eq (hb _)) hnc (fun y hy => ?_) (fun h₁ hns kk => ?_) rfl rfl rfl
  · have e : y = (("self" : Str), Value.ref x) := by simpa using hy
    subst e
    exact hse
  have X1 : K.In h₁ := X.keeps kk
  have hx1 : h₁.get? x = some (excObj C t0 none .none) := kk _ _ hx
  have Lne : hp0.objs.size ≠ x := Nat.ne_of_gt (Heap.lt_size hx)
  obtain ⟨pl, he⟩ := hev hp0.objs.size
  refine ks_wpAt_execs_cons (ks_wpAt_Expr_any (ks_wpAt_MethodCall (pl := pl) ?_ he) (by show interactive _ = false; simp [interactive, callEnv, newEnv, hk]))
  refine ks_wpAt_super_base hsu hcl (by decide) rfl (X1 _ _ lf) rfl hp rfl (X1 _ _ lc) rfl hvs hfile S.top ?_
  have X1' := X1
  refine ks_loadName_global hk hsu (loadGlobal_builtin (G.keeps kk) hmg (Bn.keeps kk) ((hbb _ (by decide)).trans boot_super) ⟨rfl, ?_⟩)
  refine wpAny_loadName_free hk hcl rfl ⟨_, X1 _ _ lcell, rfl⟩ ?_
  refine wpAny_loadName_local hk (by rw [har]; exact hse) hns (by rw [har]; rfl) ?_
  obtain ⟨oD, hD1, hD2⟩ : ∃ oD, h₁.get? D = some oD ∧ oD.data = .cls cdD := by
    unfold clsIn at hD
    split at hD
    · rename_i c d cd' sl ho
      cases hD
      exact ⟨_, X1 _ _ ho, rfl⟩
    · cases hD
  refine ks_wpAny_isType_cls hD1 hD2 ⟨rfl, ?_⟩
  refine ks_wpAny_call_super hD1 hD2 hx1 rfl (fun c e => nomatch e) (looks_mroIn X1 T.sub) (fun h2 e2 kk2 => ?_)
  have X2 : K.In h2 := X1.keeps kk2
  have hx2 := kk2 _ _ hx1
  have I2 : InstAt h2 x (excObj C t0 none .none) C none := ⟨hx2, rfl, rfl, trivial⟩
  have hsup := T.sup
  cases hc : clsIn K C with
  | none =>
    unfold ks_superIn at hsup
    rw [hc] at hsup
    cases hsup
  | some cd =>
    unfold ks_superIn at hsup
    rw [hc] at hsup
    refine kxs_getMethod kxs_ValueError e2 (looks_opaque X2 S.thr) (l₀ := cd.mro) (fun A Q E s k q => wpAny_bind ((looks_clsIn X2 hc) A _ E s k (wpAny_pure q))) rfl X2 hsup
      (I2.type.andThen (looks_subIn X2 T.ve)) (ks_ne X2 I2 hc) (by decide) ?_
    have hu : (h2.push (kxs_mw "ValueError.__init__" x)).get? h2.objs.size = some (kxs_mw "ValueError.__init__" x) := Heap.get?_push_at rfl rfl
    have kk3 : ∀ b o, h2.get? b = some o → (h2.push (kxs_mw "ValueError.__init__" x)).get? b = some o := fun b o e => Heap.get?_push_of_some _ e
    have hx3 := kk3 _ _ hx2
    refine kxs_callWith (i := "ValueError.__init__") (x := x) rfl (evalArgs_empty ⟨hu, ?_⟩)
    show wpAny _ _ (call (.ref h2.objs.size) []) _ _ _
    have ns3 := (hns.keeps kk2).keeps kk3
    have lt2 : x < h2.objs.size := Heap.lt_size hx2
    have L1 : hp0.objs.size < h2.objs.size := by
      obtain ⟨oL, _, _, hL, _⟩ := hns
      exact Heap.lt_size (kk2 _ _ hL)
    have none0 : ∀ b, (hideAll hp0 [x]).objs.size ≤ b → (hideAll hp0 [x]).get? b = none := fun b hb => Heap.get?_none_of_le hb
    have FR : Fr (hideAll hp0 [x]) hp0.objs.size (h2.push (kxs_mw "ValueError.__init__" x)) (fun y => [(("self" : Str), Value.ref x)].reverse.lookup y) :=
      ⟨ns3, fun b o e => kk3 _ _ (kk2 _ _ (kk _ _ (k0 b o e))), Nat.le_of_eq hle⟩
    have NW : News (hideAll hp0 [x]) hp0.objs.size (h2.push (kxs_mw "ValueError.__init__" x)) [(h2.objs.size, kxs_mw "ValueError.__init__" x), (x, excObj C t0 none .none)] := fun p hp => by
      rcases List.mem_cons.mp hp with e | hp
      · subst e
        exact ⟨hu, Nat.ne_of_gt L1, none0 _ (by omega)⟩
      · have e : p = (x, excObj C t0 none .none) := by simpa using hp
        subst e
        exact ⟨hx3, Lne.symm, hxn⟩
    refine kxs_call (s := ⟨h2.push (kxs_mw "ValueError.__init__" x), g, d, _, os⟩) FR X₀ NW F.excBase_ValueError T.xin List.mem_cons_self (.tail (Nat.ne_of_gt lt2) (.head fun p hp => (nomatch hp))) (by show 0 ≤ sizeLine; decide) fun t1 h4 F4 N4 l4 => ?_
    refine wpAt_of_wpAny (wpAny_execs_nil ?_)
    refine hq h4 _ t1 (fun b o hb e => F4.keep b o (hideAll_get _ e (by simpa using hb))) (N4 (x, excObj C t1 none .none) (by simp)).1
/-- X() -/
theorem nil_made (S : SupDef prog K fI D) (T : NilC K C D fI) (X : K.In s.heap) (G : s.heap.Ns mainGlobals mg) (Bn : s.heap.Ns builtinsNs mb) (hbb : ∀ z : Str, z ≠ "__name__" → mb z = bootBuiltins z)
    (hlim : s.heap.NoLimit) (hroom : A.depth + 1 < recursionLimit)
    (hq : ∀ h' tk e t1, (∀ b o, s.heap.get? b = some o → h'.get? b = some o) → s.heap.objs.size ≤ e → h'.get? e = some (excObj C t1 none .none) → R (.ok (.ret (.ref e))) ⟨h', s.gens, s.drawn, tk, s.os⟩) :
    codeAny (model prog w) A (.call (.ref C) ⟨[], []⟩) R s := by
  obtain ⟨nm, q, N, bs, bm, sn, sub, ab, col, dd, k0, k1, k2, k3, k5, hC, hbm⟩ := T.cls
  obtain ⟨h0, g, d, tk, os⟩ := s
  have up : ∀ b o, h0.get? b = some o → ((h0.push (kdv_tup [])).push (PySem.HandSPX.excO C h0.objs.size)).get? b = some o := fun b o e => Heap.get?_push_of_some _ (Heap.get?_push_of_some _ e)
  have at1 : ((h0.push (kdv_tup [])).push (PySem.HandSPX.excO C h0.objs.size)).get? (h0.objs.size + 1) = some (PySem.HandSPX.excO C h0.objs.size) := by heap_get
  have new1 : K.lookup (h0.objs.size + 1) = none := by
    cases e : K.lookup (h0.objs.size + 1) with
    | none => rfl
    | some o => exact absurd (Nat.lt_of_succ_lt (Heap.lt_size (show h0.get? (h0.objs.size + 1) = some o from X _ _ e))) (Nat.lt_irrefl _)
  refine PySem.HandSPX.call_own F.excBase_ValueError (fun Y => PySem.HandSPX.refsVE_contains Y bm hbm) (X _ _ hC) (looks_findIn X T.ini) (fun self => bind_fn X self S.tI) (by show 0 ≤ sizeLine; decide) ?_
  refine nil_init (s := ⟨(h0.push (kdv_tup [])).push (PySem.HandSPX.excO C h0.objs.size), g, d, tk, os⟩) (x := h0.objs.size + 1) S T (X.keeps up) new1 (G.keeps up) (Bn.keeps up) hbb (hlim.keeps up) at1 (by show A.depth + 1 < recursionLimit; exact hroom) fun h2 tk2 t1 k2 e2 => ?_
  refine ⟨rfl, hq h2 tk2 (h0.objs.size + 1) t1 (fun b o e => k2 b o (Nat.ne_of_lt (Nat.lt_succ_of_lt (Heap.lt_size e))) (up b o e)) (Nat.le_succ _) e2⟩
end
open L2 in
/-- what the top has of an own error without arguments -/
structure NilX (prog : Program) (K : Frag) (mg : Str → Option Value) (x : Str) (C : Addr) : Prop where
  gC : mg x = some (.ref C)
  kC : keepIn K (.ref C) = true
  exC : subIn K (.ref C) (.type "BaseException") = some true
  tyC : typeIn K (.ref C) = some (.type "type")
  sd : ∃ D fI, SupDef prog K fI D ∧ NilC K C D fI
open L2 in
def tNil0 (C : Addr) : L2.St → Hp → XK → Prop := fun _ H Q => Q (.ref C) none H
open L2 in
theorem pmk_nil {X : Cx} {x : Str} {C : Addr} {k : Nat} {p pos : Pos} (T : NilX X.prog X.K X.mg x C) (hr : Room k X.A) (hg : Gl X x) (hd : (x == ("__debug__" : Str)) = false := by decide) : PMk X (.Call (.Name x p) [] [] pos) (tNil0 C) := by
  obtain ⟨D, fI, S, N⟩ := T.sd
  intro pins s σ H Q I h
  refine wpAny_Call_Name_kw (ld_glob I hg T.gC ?_ hd)
  refine callWith_K0 I.kIn T.kC ?_
  show wpAny _ _ (call (.ref C) []) _ _ _
  obtain ⟨mb, b1, b2⟩ := I.mod.blt
  refine wpAny_call (nil_made S N I.kIn (I.mod.glob.keeps I.bk) (b1.keeps I.bk) b2 I.nolimit (by have := hr.dp; omega) fun h' tk e t1 kk le he => ?_)
  have nw : s.heap.get? e = none := Heap.get?_none_of_le le
  exact ⟨e, _, _, s, H, .ref C, none, rfl, I, kk, nw, he, ⟨rfl, rfl⟩, rfl, rfl, I.hok.fresh le, rfl, I.bare, raises_own T.exC T.tyC, h⟩
end Hd
set_option maxHeartbeats 4000000
/-! Steps of heaps, plans that can be made: numbers alone. -/
namespace Hd
open PySem PySem.Spec PyProof.Rows L2
def can (ns : List Int) (i j : Nat) : Bool := decide (0 < ns.getD j 0) && decide (ns.getD j 0 ≤ ns.getD i 0)
def shf (ns : List Int) (i j : Nat) (m : Int) : List Int := (ns.set i (ns.getD i 0 - m)).set j (ns.getD j 0 + m)
def mv (ns : List Int) (i j : Nat) : List Int := shf ns i j (ns.getD j 0)
theorem can_iff {ns : List Int} {i j : Nat} : can ns i j = true ↔ 0 < ns.getD j 0 ∧ ns.getD j 0 ≤ ns.getD i 0 := by
  unfold can
  simp only [Bool.and_eq_true, decide_eq_true_eq]
theorem len_mv (ns : List Int) (i j : Nat) : (mv ns i j).length = ns.length := by
  unfold mv shf
  rw [List.length_set, List.length_set]
theorem getD_set {ns : List Int} {i k : Nat} {v : Int} : (ns.set i v).getD k 0 = if k = i ∧ i < ns.length then v else ns.getD k 0 := by
  rw [List.getD_eq_getElem?_getD, List.getElem?_set, List.getD_eq_getElem?_getD]
  by_cases h : i = k
  · subst h
    rw [if_pos rfl]
    by_cases h2 : i < ns.length
    · rw [if_pos h2, if_pos ⟨rfl, h2⟩]
      rfl
    · rw [if_neg h2, if_neg fun z => h2 z.2, List.getElem?_eq_none (by omega)]
  · rw [if_neg h, if_neg fun z => h z.1.symm]
theorem getD_mv {ns : List Int} {i j k : Nat} (hi : i < ns.length) (hj : j < ns.length) (hij : i ≠ j) : (mv ns i j).getD k 0 = if k = j then 2 * ns.getD j 0 else if k = i then ns.getD i 0 - ns.getD j 0 else ns.getD k 0 := by
  unfold mv shf
  rw [getD_set, getD_set, List.length_set]
  by_cases h : k = j
  · rw [if_pos ⟨h, hj⟩, if_pos h]
    omega
  · rw [if_neg fun z => h z.1, if_neg h]
    by_cases h2 : k = i
    · rw [if_pos ⟨h2, hi⟩, if_pos h2]
    · rw [if_neg fun z => h2 z.1, if_neg h2]
/-- nothing below 0 -/
def NN (ns : List Int) : Prop := ∀ k, 0 ≤ ns.getD k 0
theorem nn_of {ns : List Int} (h : ∀ n ∈ ns, 0 ≤ n) : NN ns := fun k => by
  rw [List.getD_eq_getElem?_getD]
  cases e : ns[k]? with
  | none => exact Int.le_refl _
  | some v => exact h v (List.mem_of_getElem? e)
theorem NN.mem {ns : List Int} (h : NN ns) : ∀ n ∈ ns, 0 ≤ n := fun n hn => by
  obtain ⟨k, hk, e⟩ := List.mem_iff_getElem.mp hn
  have := h k
  rw [List.getD_eq_getElem?_getD, List.getElem?_eq_getElem hk] at this
  rw [← e]
  exact this
theorem NN.mv {ns : List Int} {i j : Nat} (h : NN ns) (hi : i < ns.length) (hj : j < ns.length) (hij : i ≠ j) (hc : can ns i j = true) : NN (mv ns i j) := fun k => by
  rw [getD_mv hi hj hij]
  obtain ⟨c1, c2⟩ := can_iff.mp hc
  have := h k
  split
  · omega
  · split <;> omega
theorem sum_set : ∀ (ns : List Int) (i : Nat) (v : Int), i < ns.length → (ns.set i v).sum = ns.sum + v - ns.getD i 0
  | [], i, v, h => absurd h (by simp)
  | x :: r, 0, v, _ => by
    simp only [List.set_cons_zero, List.sum_cons, List.getD_cons_zero]
    omega
  | x :: r, i + 1, v, h => by
    simp only [List.set_cons_succ, List.sum_cons, List.getD_cons_succ]
    rw [sum_set r i v (by simpa using h)]
    omega
theorem sum_mv {ns : List Int} {i j : Nat} (hi : i < ns.length) (hj : j < ns.length) (hij : i ≠ j) : (mv ns i j).sum = ns.sum := by
  unfold Hd.mv shf
  rw [sum_set _ _ _ (by rw [List.length_set]; exact hj), sum_set _ _ _ hi, getD_set, if_neg fun z => hij z.1.symm]
  omega
/-- the whole is at least what lies at unlike places -/
theorem sum_ge : ∀ (ns : List Int), NN ns → 0 ≤ ns.sum
  | [], _ => by simp
  | x :: r, h => by
    have := h 0
    have := sum_ge r fun k => by simpa using h (k + 1)
    simp only [List.sum_cons, List.getD_cons_zero] at *
    omega
theorem sum_del (ns : List Int) (i : Nat) (h : NN ns) (hi : i < ns.length) : (ns.set i 0).sum = ns.sum - ns.getD i 0 ∧ NN (ns.set i 0) := by
  refine ⟨by rw [sum_set _ _ _ hi]; omega, fun k => ?_⟩
  rw [getD_set]
  split
  · exact Int.le_refl _
  · exact h k
theorem sum_one {ns : List Int} {i : Nat} (h : NN ns) : ns.getD i 0 ≤ ns.sum := by
  by_cases hi : i < ns.length
  · obtain ⟨e, n⟩ := sum_del ns i h hi
    have := sum_ge _ n
    omega
  · rw [List.getD_eq_getElem?_getD, List.getElem?_eq_none (by omega)]
    exact sum_ge _ h
theorem sum_three {ns : List Int} {i j k : Nat} (h : NN ns) (hi : i < ns.length) (hj : j < ns.length) (hk : k < ns.length) (hij : i ≠ j) (hik : i ≠ k) (hjk : j ≠ k) : ns.getD i 0 + ns.getD j 0 + ns.getD k 0 ≤ ns.sum := by
  obtain ⟨e1, n1⟩ := sum_del ns i h hi
  obtain ⟨e2, n2⟩ := sum_del (ns.set i 0) j n1 (by rw [List.length_set]; exact hj)
  have e3 := sum_one (i := k) n2
  rw [getD_set, if_neg fun z => hjk z.1.symm, getD_set, if_neg fun z => hik z.1.symm] at e3
  rw [getD_set, if_neg fun z => hij z.1.symm] at e2
  omega
/-- a plan all of whose steps can be made -/
def run : List Int → List (Nat × Nat) → Option (List Int)
  | ns, [] => some ns
  | ns, s :: r => if can ns s.1 s.2 = true then run (mv ns s.1 s.2) r else none
theorem run_app : ∀ (ps : List (Nat × Nat)) (ns : List Int) (qs : List (Nat × Nat)), run ns (ps ++ qs) = (run ns ps).bind fun m => run m qs
  | [], ns, qs => rfl
  | p :: ps, ns, qs => by
    show (if can ns p.1 p.2 = true then run (mv ns p.1 p.2) (ps ++ qs) else none) = (if can ns p.1 p.2 = true then run (mv ns p.1 p.2) ps else none).bind _
    split
    · exact run_app ps _ qs
    · rfl
/-- the steps are of so many heaps -/
def Stp (n : Nat) (ps : List (Nat × Nat)) : Prop := ∀ p ∈ ps, p.1 < n ∧ p.2 < n ∧ p.1 ≠ p.2
theorem Stp.app {n : Nat} {ps qs : List (Nat × Nat)} (a : Stp n ps) (b : Stp n qs) : Stp n (ps ++ qs) := fun p hp => (List.mem_append.mp hp).elim (a p) (b p)
structure Gone (ns : List Int) (ps : List (Nat × Nat)) (m : List Int) : Prop where
  run : run ns ps = some m
  stp : Stp ns.length ps
theorem Gone.nil (ns : List Int) : Gone ns [] ns := ⟨rfl, fun p hp => nomatch hp⟩
theorem run_keeps : ∀ (ps : List (Nat × Nat)) (ns m : List Int), Stp ns.length ps → Hd.run ns ps = some m → m.length = ns.length ∧ m.sum = ns.sum ∧ (NN ns → NN m) ∧ (∀ g : Int, (∀ k, g ∣ ns.getD k 0) → ∀ k, g ∣ m.getD k 0)
  | [], ns, m, _, e => by
    have e' : ns = m := Option.some.inj e
    subst e'
    exact ⟨rfl, rfl, id, fun _ h => h⟩
  | p :: ps, ns, m, st, e => by
    obtain ⟨a, b, c⟩ := st p List.mem_cons_self
    have e' : (if can ns p.1 p.2 = true then Hd.run (Hd.mv ns p.1 p.2) ps else none) = some m := e
    by_cases hc : can ns p.1 p.2 = true
    · rw [if_pos hc] at e'
      obtain ⟨h1, h2, h3, h4⟩ := run_keeps ps (Hd.mv ns p.1 p.2) m (fun q hq => by rw [len_mv]; exact st q (List.mem_cons_of_mem _ hq)) e'
      rw [len_mv] at h1
      rw [sum_mv a b c] at h2
      refine ⟨h1, h2, fun n => h3 (n.mv a b c hc), fun g hg => h4 g fun k => ?_⟩
      rw [getD_mv a b c]
      split
      · exact Int.dvd_trans (hg p.2) (Int.dvd_mul_left _ _)
      · split
        · exact Int.dvd_sub (hg _) (hg _)
        · exact hg k
    · rw [if_neg hc] at e'
      cases e'
theorem Gone.len {ns m : List Int} {ps : List (Nat × Nat)} (h : Gone ns ps m) : m.length = ns.length := (run_keeps ps ns m h.stp h.run).1
theorem Gone.sum {ns m : List Int} {ps : List (Nat × Nat)} (h : Gone ns ps m) : m.sum = ns.sum := (run_keeps ps ns m h.stp h.run).2.1
theorem Gone.nn {ns m : List Int} {ps : List (Nat × Nat)} (h : Gone ns ps m) (n : NN ns) : NN m := (run_keeps ps ns m h.stp h.run).2.2.1 n
theorem Gone.dvd {ns m : List Int} {ps : List (Nat × Nat)} (h : Gone ns ps m) {g : Int} (n : ∀ k, g ∣ ns.getD k 0) : ∀ k, g ∣ m.getD k 0 := (run_keeps ps ns m h.stp h.run).2.2.2 g n
theorem Gone.app {ns m r : List Int} {ps qs : List (Nat × Nat)} (a : Gone ns ps m) (b : Gone m qs r) : Gone ns (ps ++ qs) r := by
  refine ⟨?_, a.stp.app ?_⟩
  · rw [run_app, a.run]
    exact b.run
  · rw [← a.len]
    exact b.stp
theorem Gone.one {ns : List Int} {i j : Nat} (hi : i < ns.length) (hj : j < ns.length) (hij : i ≠ j) (hc : can ns i j = true) : Gone ns [(i, j)] (Hd.mv ns i j) := by
  refine ⟨?_, fun p hp => ?_⟩
  · show (if can ns i j = true then some (Hd.mv ns i j) else none) = _
    rw [if_pos hc]
  · have e : p = (i, j) := by simpa using hp
    subst e
    exact ⟨hi, hj, hij⟩
/-! ### halving -/
/-- the state within halving: q the figures left, r those that are through, e the weight; the heaps ns at lo, mi, hi are m's there -/
structure Hv (ns : List Int) (lo mi hi : Nat) (p q r e : Int) (ps : List (Nat × Nat)) (m : List Int) : Prop where
  go : Gone ns ps m
  pq : p = q * e + r
  r0 : 0 ≤ r
  re : r < e
  q1 : 1 ≤ q
  len : e = 2 ^ ps.length
  lo_ : m.getD lo 0 = e * ns.getD lo 0
  mi_ : m.getD mi 0 = ns.getD mi 0 - r * ns.getD lo 0
  hi_ : m.getD hi 0 = ns.getD hi 0 - (e - 1 - r) * ns.getD lo 0
  un : ∀ k, k ≠ lo → k ≠ mi → k ≠ hi → m.getD k 0 = ns.getD k 0
/-- three heaps, the least first -/
structure Three (ns : List Int) (lo mi hi : Nat) : Prop where
  blo : lo < ns.length
  bmi : mi < ns.length
  bhi : hi < ns.length
  n1 : lo ≠ mi
  n2 : lo ≠ hi
  n3 : mi ≠ hi
  pos : 0 < ns.getD lo 0
  le1 : ns.getD lo 0 ≤ ns.getD mi 0
  le2 : ns.getD mi 0 ≤ ns.getD hi 0
theorem near_ok {a b : Int} (ha : 0 < a) (hab : a ≤ b) : 1 ≤ (2 * b + a - 1) / (2 * a) ∧ -a < 2 * b - 2 * ((2 * b + a - 1) / (2 * a) * a) ∧ 2 * b - 2 * ((2 * b + a - 1) / (2 * a) * a) ≤ a := by
  have h1 := Int.mul_ediv_add_emod (2 * b + a - 1) (2 * a)
  have h2 := Int.emod_nonneg (2 * b + a - 1) (show 2 * a ≠ 0 by omega)
  have h3 := Int.emod_lt_of_pos (2 * b + a - 1) (show 0 < 2 * a by omega)
  have h4 : 1 ≤ (2 * b + a - 1) / (2 * a) := by
    rw [Int.le_ediv_iff_mul_le (by omega)]
    omega
  have h5 : 2 * a * ((2 * b + a - 1) / (2 * a)) = 2 * ((2 * b + a - 1) / (2 * a) * a) := by
    rw [Int.mul_assoc, Int.mul_comm a]
  rw [h5] at h1
  refine ⟨h4, by omega, by omega⟩
theorem Hv.start {ns : List Int} {lo mi hi : Nat} {p : Int} (hp : 1 ≤ p) : Hv ns lo mi hi p p 0 1 [] ns :=
  ⟨.nil _, by omega, by omega, by omega, hp, rfl, by omega, by omega, by omega, fun _ _ _ _ => rfl⟩
theorem Hv.next {ns m : List Int} {lo mi hi : Nat} {p q r e : Int} {ps : List (Nat × Nat)} (T : Three ns lo mi hi) (h : Hv ns lo mi hi p q r e ps m) (hpa : (p - 1) * ns.getD lo 0 ≤ ns.getD mi 0) (hq : 1 < q) (g : Nat) (hg : g = if q % 2 = 1 then mi else hi) :
    Hv ns lo mi hi p (q / 2) (if q % 2 = 1 then r + e else r) (2 * e) (ps ++ [(g, lo)]) (mv m g lo) := by
  have hlen := h.go.len
  have a0 := T.pos
  have e1 : q = 2 * (q / 2) + q % 2 := by omega
  have hq2 : 1 ≤ q / 2 := by omega
  have he : 0 < e := by
    have := h.r0
    have := h.re
    omega
  have pe : 2 * e ≤ (q / 2) * (2 * e) := by
    have := Int.mul_le_mul_of_nonneg_right hq2 (show 0 ≤ 2 * e by omega)
    omega
  have r0 := h.r0
  have re := h.re
  have ea : 0 < e * ns.getD lo 0 := Int.mul_pos he a0
  have d2 : 2 * e * ns.getD lo 0 = 2 * (e * ns.getD lo 0) := Int.mul_assoc _ _ _
  have hlo : lo < m.length := by rw [hlen]; exact T.blo
  by_cases hb : q % 2 = 1
  · rw [if_pos hb] at hg
    subst hg
    rw [if_pos hb]
    have ep : p = (q / 2) * (2 * e) + (r + e) := by
      have : q * e = (q / 2) * (2 * e) + e := by
        rw (occs := [1]) [e1]
        rw [hb, Int.add_mul, Int.one_mul, Int.mul_comm 2, Int.mul_assoc]
      have := h.pq
      omega
    have k1 : (r + e) * ns.getD lo 0 ≤ (p - 1) * ns.getD lo 0 := Int.mul_le_mul_of_nonneg_right (by omega) (by omega)
    have k2 : (r + e) * ns.getD lo 0 = r * ns.getD lo 0 + e * ns.getD lo 0 := Int.add_mul _ _ _
    have k3 : (2 * e - 1 - (r + e)) = e - 1 - r := by omega
    have hmi : g < m.length := by rw [hlen]; exact T.bmi
    have hc : can m g lo = true := can_iff.mpr (by rw [h.lo_, h.mi_]; omega)
    refine ⟨h.go.app (.one hmi hlo (Ne.symm T.n1) hc), ep, by omega, by omega, hq2, ?_, ?_, ?_, ?_, fun k x1 x2 x3 => ?_⟩
    · rw [List.length_append, h.len]
      show 2 * 2 ^ ps.length = 2 ^ (ps.length + 1)
      rw [Int.pow_succ, Int.mul_comm]
    · rw [getD_mv hmi hlo (Ne.symm T.n1), if_pos rfl, h.lo_, d2]
    · rw [getD_mv hmi hlo (Ne.symm T.n1), if_neg (Ne.symm T.n1), if_pos rfl, h.lo_, h.mi_, k2]
      omega
    · rw [getD_mv hmi hlo (Ne.symm T.n1), if_neg (Ne.symm T.n2), if_neg (Ne.symm T.n3), h.hi_, k3]
    · rw [getD_mv hmi hlo (Ne.symm T.n1), if_neg x1, if_neg x2]
      exact h.un k x1 x2 x3
  · rw [if_neg hb] at hg
    subst hg
    rw [if_neg hb]
    have ep : p = (q / 2) * (2 * e) + r := by
      have : q * e = (q / 2) * (2 * e) := by
        rw (occs := [1]) [e1]
        rw [show q % 2 = 0 by omega, Int.add_zero, Int.mul_comm 2, Int.mul_assoc]
      have := h.pq
      omega
    have k1 : (2 * e - 1 - r) * ns.getD lo 0 ≤ (p - 1) * ns.getD lo 0 := Int.mul_le_mul_of_nonneg_right (by omega) (by omega)
    have k2 : (2 * e - 1 - r) * ns.getD lo 0 = (e - 1 - r) * ns.getD lo 0 + e * ns.getD lo 0 := by
      rw [← Int.add_mul]
      congr 1
      omega
    have le2 := T.le2
    have hhi : g < m.length := by rw [hlen]; exact T.bhi
    have hc : can m g lo = true := can_iff.mpr (by rw [h.lo_, h.hi_]; omega)
    refine ⟨h.go.app (.one hhi hlo (Ne.symm T.n2) hc), ep, by omega, by omega, hq2, ?_, ?_, ?_, ?_, fun k x1 x2 x3 => ?_⟩
    · rw [List.length_append, h.len]
      show 2 * 2 ^ ps.length = 2 ^ (ps.length + 1)
      rw [Int.pow_succ, Int.mul_comm]
    · rw [getD_mv hhi hlo (Ne.symm T.n2), if_pos rfl, h.lo_, d2]
    · rw [getD_mv hhi hlo (Ne.symm T.n2), if_neg (Ne.symm T.n1), if_neg T.n3, h.mi_]
    · rw [getD_mv hhi hlo (Ne.symm T.n2), if_neg (Ne.symm T.n2), if_pos rfl, h.lo_, h.hi_, k2]
      omega
    · rw [getD_mv hhi hlo (Ne.symm T.n2), if_neg x1, if_neg x3]
      exact h.un k x1 x2 x3
/-- what halving is for: at one of the three places at most half of the least, elsewhere nothing new; so many steps that 2 to their number is at most the whole -/
structure Halved (ns : List Int) (lo mi hi : Nat) (ps : List (Nat × Nat)) (m : List Int) : Prop where
  go : Gone ns ps m
  half : ∃ k, (k = lo ∨ k = mi ∨ k = hi) ∧ 2 * m.getD k 0 ≤ ns.getD lo 0
  un : ∀ k, k ≠ lo → k ≠ mi → k ≠ hi → m.getD k 0 = ns.getD k 0
  len : (2 : Int) ^ ps.length ≤ ns.sum
theorem Hv.end {ns m : List Int} {lo mi hi : Nat} {p r e : Int} {ps : List (Nat × Nat)} (N : NN ns) (T : Three ns lo mi hi) (h : Hv ns lo mi hi p 1 r e ps m) (n1 : -ns.getD lo 0 < 2 * ns.getD mi 0 - 2 * (p * ns.getD lo 0)) (n2 : 2 * ns.getD mi 0 - 2 * (p * ns.getD lo 0) ≤ ns.getD lo 0) :
    Halved ns lo mi hi (ps ++ [if p * ns.getD lo 0 > ns.getD mi 0 then (lo, mi) else (mi, lo)]) (if p * ns.getD lo 0 > ns.getD mi 0 then mv m lo mi else mv m mi lo) := by
  have hlen := h.go.len
  have a0 := T.pos
  have r0 := h.r0
  have re := h.re
  have he : 0 < e := by omega
  have hlo : lo < m.length := by rw [hlen]; exact T.blo
  have hmi : mi < m.length := by rw [hlen]; exact T.bmi
  have ep : p = e + r := by
    have := h.pq
    omega
  have k1 : p * ns.getD lo 0 = e * ns.getD lo 0 + r * ns.getD lo 0 := by rw [ep, Int.add_mul]
  have k2 : 1 * ns.getD lo 0 ≤ e * ns.getD lo 0 := Int.mul_le_mul_of_nonneg_right (by omega) (by omega)
  have s3 := sum_three N T.blo T.bmi T.bhi T.n1 T.n2 T.n3
  have le2 := T.le2
  have elen : (2 : Int) ^ (ps.length + 1) ≤ ns.sum := by
    have q1 : (2 : Int) ^ (ps.length + 1) = 2 * e := by rw [Int.pow_succ, ← h.len, Int.mul_comm]
    have q2 : p * 1 ≤ p * ns.getD lo 0 := Int.mul_le_mul_of_nonneg_left (by omega) (by omega)
    omega
  by_cases hs : p * ns.getD lo 0 > ns.getD mi 0
  · rw [if_pos hs, if_pos hs]
    have hc : can m lo mi = true := can_iff.mpr (by rw [h.lo_, h.mi_]; omega)
    refine ⟨h.go.app (.one hlo hmi T.n1 hc), ⟨lo, .inl rfl, ?_⟩, fun k x1 x2 x3 => ?_, by rw [List.length_append]; exact elen⟩
    · rw [getD_mv hlo hmi T.n1, if_neg T.n1, if_pos rfl, h.lo_, h.mi_]
      omega
    · rw [getD_mv hlo hmi T.n1, if_neg x2, if_neg x1]
      exact h.un k x1 x2 x3
  · rw [if_neg hs, if_neg hs]
    have hc : can m mi lo = true := can_iff.mpr (by rw [h.lo_, h.mi_]; omega)
    refine ⟨h.go.app (.one hmi hlo (Ne.symm T.n1) hc), ⟨mi, .inr (.inl rfl), ?_⟩, fun k x1 x2 x3 => ?_, by rw [List.length_append]; exact elen⟩
    · rw [getD_mv hmi hlo (Ne.symm T.n1), if_neg (Ne.symm T.n1), if_pos rfl, h.lo_, h.mi_]
      omega
    · rw [getD_mv hmi hlo (Ne.symm T.n1), if_neg x1, if_neg x2]
      exact h.un k x1 x2 x3
end Hd
set_option maxHeartbeats 4000000
/-! Emptying one of three, all but two, all but one: numbers alone. -/
namespace Hd
open PySem PySem.Spec PyProof.Rows L2
/-! ### the heaps that are not empty -/
def fil (ns : List Int) : List Nat := (List.range ns.length).filter fun k => decide (0 < ns.getD k 0)
theorem mem_fil {ns : List Int} {k : Nat} : k ∈ fil ns ↔ k < ns.length ∧ 0 < ns.getD k 0 := by
  unfold fil
  rw [List.mem_filter, List.mem_range, decide_eq_true_eq]
theorem fil_sorted (ns : List Int) : (fil ns).Pairwise (· < ·) := List.Pairwise.filter _ List.pairwise_lt_range
theorem fil_le (ns : List Int) : (fil ns).length ≤ ns.length := Nat.le_trans (List.length_filter_le _ _) (by rw [List.length_range]; exact Nat.le_refl _)
theorem filter_lt {α : Type} {p q : α → Bool} : ∀ {l : List α}, (∀ x ∈ l, q x = true → p x = true) → (∃ x ∈ l, p x = true ∧ q x = false) → (l.filter q).length < (l.filter p).length
  | [], _, h => by
    obtain ⟨x, hx, _⟩ := h
    cases hx
  | x :: l, h1, h2 => by
    have ih : (l.filter q).length ≤ (l.filter p).length := by
      rw [← List.countP_eq_length_filter, ← List.countP_eq_length_filter]
      exact List.countP_mono_left fun y hy => h1 y (List.mem_cons_of_mem _ hy)
    rw [List.filter_cons, List.filter_cons]
    obtain ⟨y, hy, y1, y2⟩ := h2
    rcases List.mem_cons.mp hy with e | hy
    · subst e
      rw [y1, y2, if_pos rfl, if_neg (by decide)]
      exact Nat.lt_succ_of_le ih
    · have := filter_lt (l := l) (fun z hz => h1 z (List.mem_cons_of_mem _ hz)) ⟨y, hy, y1, y2⟩
      by_cases hq : q x = true
      · rw [if_pos hq, if_pos (h1 x List.mem_cons_self hq)]
        exact Nat.succ_lt_succ this
      · rw [if_neg hq]
        split
        · exact Nat.lt_succ_of_lt this
        · exact this
theorem fil_lt {ns m : List Int} (hl : m.length = ns.length) (h1 : ∀ k, 0 < m.getD k 0 → 0 < ns.getD k 0) (h2 : ∃ k, k < ns.length ∧ 0 < ns.getD k 0 ∧ m.getD k 0 ≤ 0) : (fil m).length < (fil ns).length := by
  unfold fil
  rw [hl]
  refine filter_lt (fun k _ h => decide_eq_true (h1 k (of_decide_eq_true h))) ?_
  obtain ⟨k, a, b, c⟩ := h2
  exact ⟨k, List.mem_range.mpr a, decide_eq_true b, decide_eq_false (by omega)⟩
theorem sum_zero : ∀ ns : List Int, (∀ k, ns.getD k 0 = 0) → ns.sum = 0
  | [], _ => rfl
  | x :: r, h => by
    have h0 := h 0
    have hr := sum_zero r fun k => by simpa using h (k + 1)
    simp only [List.getD_cons_zero] at h0
    simp only [List.sum_cons]
    omega
theorem sum_two {ns : List Int} {i j : Nat} (hi : i < ns.length) (hj : j < ns.length) (hij : i ≠ j) (h : ∀ k, k ≠ i → k ≠ j → ns.getD k 0 = 0) : ns.sum = ns.getD i 0 + ns.getD j 0 := by
  have e1 := sum_set ns i 0 hi
  have e2 := sum_set (ns.set i 0) j 0 (by rw [List.length_set]; exact hj)
  rw [getD_set, if_neg fun z => hij z.1.symm] at e2
  have e3 := sum_zero ((ns.set i 0).set j 0) fun k => by
    rw [getD_set, getD_set, List.length_set]
    by_cases a : k = j
    · rw [if_pos ⟨a, hj⟩]
    · rw [if_neg fun z => a z.1]
      by_cases b : k = i
      · rw [if_pos ⟨b, hi⟩]
      · rw [if_neg fun z => b z.1]
        exact h k b a
  omega
/-! ### one of three -/
/-- k is one of the three -/
def In3 (x y z k : Nat) : Prop := k = x ∨ k = y ∨ k = z
structure Trio (ns : List Int) (x y z : Nat) : Prop where
  bx : x < ns.length
  by_ : y < ns.length
  bz : z < ns.length
  n1 : x ≠ y
  n2 : x ≠ z
  n3 : y ≠ z
/-- so far within emptying: t halvings are done -/
structure Em (ns : List Int) (x y z : Nat) (F t : Nat) (ps : List (Nat × Nat)) (m : List Int) : Prop where
  go : Gone ns ps m
  le : ∃ k, In3 x y z k ∧ 2 ^ t * m.getD k 0 ≤ ns.sum
  un : ∀ k, ¬ In3 x y z k → m.getD k 0 = ns.getD k 0
  len : ps.length ≤ t * F
  tF : t ≤ F
theorem Em.start {ns : List Int} {x y z F : Nat} (N : NN ns) : Em ns x y z F 0 [] ns :=
  ⟨.nil _, ⟨x, .inl rfl, by have := sum_one (i := x) N; simpa using this⟩, fun _ _ => rfl, Nat.zero_le _, Nat.zero_le _⟩
theorem two_le {k F : Nat} {S : Int} (h : (2 : Int) ^ k ≤ S) (hS : S < 2 ^ F) : k < F := by
  by_cases c : k < F
  · exact c
  · have : (2 : Int) ^ F ≤ 2 ^ k := by
      have := Nat.pow_le_pow_right (show 0 < 2 by decide) (show F ≤ k by omega)
      have e : ∀ n : Nat, (2 : Int) ^ n = ((2 ^ n : Nat) : Int) := fun n => by simp
      rw [e, e]
      exact Int.ofNat_le.mpr this
    omega
/-- one halving more: the places in the order lo, mi, hi -/
theorem Em.next {ns m r : List Int} {x y z F t lo mi hi : Nat} {ps qs : List (Nat × Nat)} (h : Em ns x y z F t ps m) (hF : ns.sum < 2 ^ F) (hpos : ∀ k, In3 x y z k → 0 < m.getD k 0) (hin : ∀ k, In3 x y z k ↔ In3 lo mi hi k)
    (hlo : ∀ k, In3 x y z k → m.getD lo 0 ≤ m.getD k 0) (hv : Halved m lo mi hi qs r) : t < F ∧ Em ns x y z F (t + 1) (ps ++ qs) r := by
  obtain ⟨k, k1, k2⟩ := h.le
  have p2 : (0 : Int) < 2 ^ t := Int.pow_pos (by decide)
  have t1 : (2 : Int) ^ t * 1 ≤ 2 ^ t * m.getD k 0 := Int.mul_le_mul_of_nonneg_left (by have := hpos k k1; omega) (by omega)
  have ht : t < F := two_le (by omega) hF
  refine ⟨ht, h.go.app hv.go, ?_, fun j hj => ?_, ?_, ht⟩
  · obtain ⟨j, j1, j2⟩ := hv.half
    refine ⟨j, (hin j).mpr j1, ?_⟩
    have a1 : (2 : Int) ^ (t + 1) * r.getD j 0 = 2 ^ t * (2 * r.getD j 0) := by rw [Int.pow_succ, Int.mul_assoc]
    have a2 : (2 : Int) ^ t * (2 * r.getD j 0) ≤ 2 ^ t * m.getD k 0 := Int.mul_le_mul_of_nonneg_left (by have := hlo k k1; omega) (by omega)
    omega
  · rw [hv.un j (fun e => hj ((hin j).mpr (.inl e))) (fun e => hj ((hin j).mpr (.inr (.inl e)))) (fun e => hj ((hin j).mpr (.inr (.inr e))))]
    exact h.un j hj
  · have hl := hv.len
    rw [h.go.sum] at hl
    have := two_le hl hF
    rw [List.length_append, Nat.add_mul]
    have := h.len
    omega
/-- what emptying is for -/
structure Emptied (ns : List Int) (F : Nat) (ps : List (Nat × Nat)) (m : List Int) : Prop where
  go : Gone ns ps m
  fewer : (fil m).length < (fil ns).length
  zero : ∃ k, k < ns.length ∧ m.getD k 0 = 0
  len : ps.length ≤ F * F
theorem Em.end {ns m : List Int} {x y z F t : Nat} {ps : List (Nat × Nat)} (N : NN ns) (T : Trio ns x y z) (hpos : ∀ k, In3 x y z k → 0 < ns.getD k 0) (h : Em ns x y z F t ps m) (k : Nat) (hk : In3 x y z k) (hz : m.getD k 0 ≤ 0) : Emptied ns F ps m := by
  have hkl : k < ns.length := by
    rcases hk with e | e | e <;> subst e
    · exact T.bx
    · exact T.by_
    · exact T.bz
  refine ⟨h.go, fil_lt h.go.len (fun j hj => ?_) ⟨k, hkl, hpos k hk, hz⟩, ⟨k, hkl, ?_⟩, Nat.le_trans h.len (Nat.mul_le_mul_right F h.tF)⟩
  · by_cases c : In3 x y z j
    · exact hpos j c
    · rw [← h.un j c]
      exact hj
  · have := h.go.nn N k
    omega
/-! ### all but two -/
structure Pr (ns : List Int) (F : Nat) (ps : List (Nat × Nat)) (m : List Int) : Prop where
  go : Gone ns ps m
  len : ps.length + (fil m).length * (F * F) ≤ (fil ns).length * (F * F)
theorem Pr.start (ns : List Int) (F : Nat) : Pr ns F [] ns := ⟨.nil _, by simp⟩
theorem Pr.next {ns m r : List Int} {F : Nat} {ps qs : List (Nat × Nat)} (h : Pr ns F ps m) (e : Emptied m F qs r) : Pr ns F (ps ++ qs) r ∧ (fil r).length < (fil m).length := by
  refine ⟨⟨h.go.app e.go, ?_⟩, e.fewer⟩
  have a := Nat.mul_le_mul_right (F * F) (show (fil r).length + 1 ≤ (fil m).length from e.fewer)
  rw [Nat.add_mul, Nat.one_mul] at a
  rw [List.length_append]
  have := h.len
  have := e.len
  omega
/-! ### all but one -/
theorem pow_dvd_le {a b : Nat} (h : a ≤ b) (g : Int) : g * 2 ^ a ∣ g * 2 ^ b := by
  refine Int.mul_dvd_mul_left g ?_
  rw [← Nat.add_sub_cancel' h, Int.pow_add]
  exact Int.dvd_mul_right _ _
/-- so far within the walk of the two: m is where it stands behind t steps; g times 2 to the T is the whole -/
structure Wk (ns : List Int) (g : Int) (T t : Nat) (ps : List (Nat × Nat)) (m : List Int) : Prop where
  go : Gone ns ps m
  len : ps.length = t
  dv : ∀ k, g * 2 ^ t ∣ m.getD k 0
  two : (fil m).length ≤ 2
  tT : t ≤ T
theorem Wk.start {ns : List Int} {g : Int} {T : Nat} (hg : ∀ k, g ∣ ns.getD k 0) (h2 : (fil ns).length ≤ 2) : Wk ns g T 0 [] ns :=
  ⟨.nil _, rfl, fun k => by simpa using hg k, h2, Nat.zero_le _⟩
theorem Wk.pair {ns m : List Int} {g : Int} {T t : Nat} {ps : List (Nat × Nat)} (N : NN ns) (h : Wk ns g T t ps m) (h1 : 1 < (fil m).length) : ∃ i j, fil m = [i, j] ∧ i < m.length ∧ j < m.length ∧ i ≠ j ∧ 0 < m.getD i 0 ∧ 0 < m.getD j 0 ∧ m.getD i 0 + m.getD j 0 = ns.sum ∧ (∀ k, k ≠ i → k ≠ j → m.getD k 0 = 0) := by
  have h2 := h.two
  have hs := fil_sorted m
  match e : fil m, h1, h2 with
  | [i, j], _, _ =>
    have mi := (mem_fil (ns := m) (k := i)).mp (by rw [e]; simp)
    have mj := (mem_fil (ns := m) (k := j)).mp (by rw [e]; simp)
    have hij : i ≠ j := by
      rw [e] at hs
      have := (List.pairwise_cons.mp hs).1 j (by simp)
      omega
    have z : ∀ k, k ≠ i → k ≠ j → m.getD k 0 = 0 := fun k a b => by
      have n := h.go.nn N k
      by_cases hk : 0 < m.getD k 0
      · have hkl : k < m.length := by
          by_cases c : k < m.length
          · exact c
          · rw [List.getD_eq_getElem?_getD, List.getElem?_eq_none (by omega)] at hk
            exact absurd hk (by decide)
        have := (mem_fil (ns := m) (k := k)).mpr ⟨hkl, hk⟩
        rw [e] at this
        simp [a, b] at this
      · omega
    refine ⟨i, j, rfl, mi.1, mj.1, hij, mi.2, mj.2, ?_, z⟩
    rw [← sum_two mi.1 mj.1 hij z]
    exact h.go.sum
theorem Wk.next {ns m : List Int} {g : Int} {T t i j : Nat} {ps : List (Nat × Nat)} (h : Wk ns g T t ps m) (g0 : 0 < g) (hS : ns.sum = g * 2 ^ T) (hi : i < m.length) (hj : j < m.length) (hij : i ≠ j) (pj : 0 < m.getD j 0) (hle : m.getD j 0 ≤ m.getD i 0)
    (hs : m.getD i 0 + m.getD j 0 = ns.sum) (hz : ∀ k, k ≠ i → k ≠ j → m.getD k 0 = 0) : t < T ∧ can m i j = true ∧ Wk ns g T (t + 1) (ps ++ [(i, j)]) (mv m i j) := by
  have hc : can m i j = true := can_iff.mpr ⟨pj, hle⟩
  have p2 : (0 : Int) < 2 ^ t := Int.pow_pos (by decide)
  have l1 : g * 2 ^ t ≤ m.getD j 0 := Int.le_of_dvd pj (h.dv j)
  have tT : t < T := by
    by_cases c : t < T
    · exact c
    · have e : t = T := Nat.le_antisymm h.tT (by omega)
      rw [← e] at hS
      omega
  have d1 : g * 2 ^ (t + 1) ∣ ns.sum := by
    rw [hS]
    exact pow_dvd_le tT g
  have d2 : g * 2 ^ (t + 1) ∣ 2 * m.getD j 0 := by
    obtain ⟨c, hc⟩ := h.dv j
    refine ⟨c, ?_⟩
    rw [hc, Int.pow_succ, Int.mul_left_comm 2, Int.mul_assoc g, Int.mul_assoc g, Int.mul_assoc]
  refine ⟨tT, hc, h.go.app (.one hi hj hij hc), by rw [List.length_append, h.len]; rfl, fun k => ?_, ?_, tT⟩
  · rw [getD_mv hi hj hij]
    by_cases a : k = j
    · rw [if_pos a]
      exact d2
    · rw [if_neg a]
      by_cases b : k = i
      · rw [if_pos b, show m.getD i 0 - m.getD j 0 = ns.sum - 2 * m.getD j 0 by omega]
        exact Int.dvd_sub d1 d2
      · rw [if_neg b, hz k b a]
        exact Int.dvd_zero _
  · refine Nat.le_trans ?_ (h.two)
    unfold fil
    rw [len_mv, ← List.countP_eq_length_filter, ← List.countP_eq_length_filter]
    refine List.countP_mono_left fun k _ hk => ?_
    have hk' := of_decide_eq_true hk
    rw [getD_mv hi hj hij] at hk'
    by_cases a : k = j
    · subst a
      exact decide_eq_true pj
    · rw [if_neg a] at hk'
      by_cases b : k = i
      · subst b
        exact decide_eq_true (by omega)
      · rw [if_neg b] at hk'
        exact decide_eq_true hk'
/-- one step further along a plan that can be made -/
theorem run_take {ns m a : List Int} {ps : List (Nat × Nat)} {i : Nat} (h : run ns ps = some m) (hi : i < ps.length) (ha : run ns (ps.take i) = some a) : can a ps[i].1 ps[i].2 = true ∧ run ns (ps.take (i + 1)) = some (mv a ps[i].1 ps[i].2) := by
  have e : ps = ps.take i ++ (ps[i] :: ps.drop (i + 1)) := by rw [← List.drop_eq_getElem_cons hi, List.take_append_drop]
  have h2 : run ns (ps.take i ++ (ps[i] :: ps.drop (i + 1))) = some m := by rw [← e]; exact h
  rw [run_app, ha] at h2
  have h3 : (if can a ps[i].1 ps[i].2 = true then run (mv a ps[i].1 ps[i].2) (ps.drop (i + 1)) else none) = some m := h2
  have hc : can a ps[i].1 ps[i].2 = true := by
    by_cases c : can a ps[i].1 ps[i].2 = true
    · exact c
    · rw [if_neg c] at h3
      cases h3
  refine ⟨hc, ?_⟩
  rw [List.take_add_one, List.getElem?_eq_getElem hi]
  show run ns (ps.take i ++ [ps[i]]) = _
  rw [run_app, ha]
  show (if can a ps[i].1 ps[i].2 = true then some (mv a ps[i].1 ps[i].2) else none) = _
  rw [if_pos hc]
theorem run_len : ∀ (ps : List (Nat × Nat)) (ns m : List Int), run ns ps = some m → m.length = ns.length
  | [], ns, m, e => by
    have e' : ns = m := Option.some.inj e
    rw [e']
  | p :: ps, ns, m, e => by
    have e' : (if can ns p.1 p.2 = true then run (mv ns p.1 p.2) ps else none) = some m := e
    split at e'
    · rw [run_len ps _ m e', len_mv]
    · cases e'
end Hd
set_option maxHeartbeats 4000000
/-! All pairs of places, in order; data that stands in the heap. -/
namespace Hd
open PySem PySem.Spec PyProof.Rows L2
def row (n i : Nat) : List (Nat × Nat) := ((List.range n).filter fun j => decide (j ≠ i)).map fun j => (i, j)
def rowTo (i j : Nat) : List (Nat × Nat) := ((List.range j).filter fun j => decide (j ≠ i)).map fun j => (i, j)
def prsTo (n i : Nat) : List (Nat × Nat) := (List.range i).flatMap (row n)
def prs (n : Nat) : List (Nat × Nat) := prsTo n n
theorem prsTo_succ (n i : Nat) : prsTo n (i + 1) = prsTo n i ++ row n i := by
  unfold prsTo
  rw [List.range_succ, List.flatMap_append]
  simp
theorem rowTo_succ (i j : Nat) : rowTo i (j + 1) = rowTo i j ++ (if j = i then [] else [(i, j)]) := by
  unfold rowTo
  rw [List.range_succ, List.filter_append, List.map_append]
  by_cases h : j = i
  · subst h
    simp
  · simp [h]
theorem prs_len {n : Nat} (h2 : n ≤ 6) : (prs n).length = n * (n - 1) := by
  have : n = 0 ∨ n = 1 ∨ n = 2 ∨ n = 3 ∨ n = 4 ∨ n = 5 ∨ n = 6 := by omega
  rcases this with e | e | e | e | e | e | e <;> subst e <;> decide
theorem prsTo_short {n : Nat} (h2 : n ≤ 6) : ∀ i, i ≤ n → (prsTo n i).length ≤ 36 := by
  have : n = 0 ∨ n = 1 ∨ n = 2 ∨ n = 3 ∨ n = 4 ∨ n = 5 ∨ n = 6 := by omega
  rcases this with e | e | e | e | e | e | e <;> subst e <;> decide
theorem prs_short {n : Nat} (h2 : n ≤ 6) : (prs n).length ≤ 36 := prsTo_short h2 n (Nat.le_refl n)
theorem mem_row {n i : Nat} {p : Nat × Nat} : p ∈ row n i ↔ p.1 = i ∧ p.2 < n ∧ p.2 ≠ i := by
  unfold row
  rw [List.mem_map]
  constructor
  · rintro ⟨j, hj, rfl⟩
    obtain ⟨h1, h2⟩ := List.mem_filter.mp hj
    exact ⟨rfl, List.mem_range.mp h1, by simpa using h2⟩
  · rintro ⟨rfl, h1, h2⟩
    exact ⟨p.2, List.mem_filter.mpr ⟨List.mem_range.mpr h1, by simpa using h2⟩, rfl⟩
theorem mem_prs {n : Nat} {p : Nat × Nat} : p ∈ prs n ↔ p.1 < n ∧ p.2 < n ∧ p.1 ≠ p.2 := by
  unfold prs prsTo
  rw [List.mem_flatMap]
  constructor
  · rintro ⟨i, hi, hp⟩
    obtain ⟨h1, h2, h3⟩ := mem_row.mp hp
    exact ⟨by rw [h1]; exact List.mem_range.mp hi, h2, by rw [h1]; exact fun z => h3 z.symm⟩
  · rintro ⟨h1, h2, h3⟩
    exact ⟨p.1, List.mem_range.mpr h1, mem_row.mpr ⟨rfl, h2, fun z => h3 z.symm⟩⟩
/-- the steps that can be made, in order -/
def due (ns : List Int) : List (Nat × Nat) := (prs ns.length).filter fun q => can ns q.1 q.2
theorem mem_due {ns : List Int} {p : Nat × Nat} : p ∈ due ns ↔ p.1 < ns.length ∧ p.2 < ns.length ∧ p.1 ≠ p.2 ∧ can ns p.1 p.2 = true := by
  unfold due
  rw [List.mem_filter, mem_prs]
  constructor
  · rintro ⟨⟨a, b, c⟩, d⟩
    exact ⟨a, b, c, d⟩
  · rintro ⟨a, b, c, d⟩
    exact ⟨⟨a, b, c⟩, d⟩
theorem filter_take {α : Type} {p : α → Bool} {l : List α} {i : Nat} {z : α} (h : l[i]? = some z) : (l.take (i + 1)).filter p = (l.take i).filter p ++ (if p z = true then [z] else []) := by
  rw [List.take_add_one, h, List.filter_append]
  congr 1
  simp only [Option.toList, List.filter_cons, List.filter_nil]
theorem map_take {α β : Type} {f : α → β} {l : List α} {i : Nat} {z : α} (h : l[i]? = some z) : (l.take (i + 1)).map f = (l.take i).map f ++ [f z] := by
  rw [List.take_add_one, h, List.map_append]
  rfl
/-! ### data -/
theorem shaped_mk {d : PyData} (h1 : d.canLay0 = true) (h2 : d.depth ≤ 64) : SeqAt.shaped d = true := by
  unfold SeqAt.shaped
  rw [h1, decide_eq_true h2]
  rfl
theorem lay_all {α : Type} (f : α → PyData) (h : ∀ x, (f x).canLay0 = true) : ∀ xs : List α, PyData.canLayAll0 (xs.map f) = true
  | [] => by simp [PyData.canLayAll0]
  | x :: xs => by simp [PyData.canLayAll0, h, lay_all f h xs]
theorem deep_all {α : Type} (f : α → PyData) (n : Nat) (h : ∀ x, (f x).depth ≤ n) : ∀ xs : List α, PyData.depthAll (xs.map f) ≤ n
  | [] => by simp [PyData.depthAll]
  | x :: xs => by
    have h1 := h x
    have h2 := deep_all f n h xs
    simp only [List.map_cons, PyData.depthAll]
    omega
theorem all_self {α : Type} (f : α → PyData) (h : ∀ x, PyData.eqv (f x) (f x) = true) : ∀ xs : List α, PyData.eqvAll (xs.map f) (xs.map f) = true
  | [] => by simp [PyData.eqvAll]
  | x :: xs => by
    simp only [List.map_cons, PyData.eqvAll, h, all_self f h xs, Bool.and_true]
theorem all_eqv {α : Type} (f : α → PyData) (e : α → α → Bool) (h : ∀ x y, PyData.eqv (f x) (f y) = e x y) (he : ∀ x y, e x y = true ↔ x = y) : ∀ xs ys : List α, PyData.eqvAll (xs.map f) (ys.map f) = true ↔ xs = ys
  | [], [] => by simp [PyData.eqvAll]
  | [], y :: ys => by simp [PyData.eqvAll]
  | x :: xs, [] => by simp [PyData.eqvAll]
  | x :: xs, y :: ys => by
    simp only [List.map_cons, PyData.eqvAll, h, Bool.and_eq_true, he, all_eqv f e h he xs ys, List.cons.injEq]
/-- a tuple of ints -/
def dI (ns : List Int) : PyData := .tuple (ns.map .int)
/-- a step -/
def dS (p : Nat × Nat) : PyData := .tuple [.int (p.1 : Int), .int (p.2 : Int)]
/-- a tuple of steps -/
def dP (ps : List (Nat × Nat)) : PyData := .tuple (ps.map dS)
theorem eqv_int (x y : Int) : PyData.eqv (.int x) (.int y) = (x == y) := by simp only [PyData.eqv]
theorem dI_eqv (xs ys : List Int) : PyData.eqv (dI xs) (dI ys) = decide (xs = ys) := by
  have h := all_eqv PyData.int (fun x y => x == y) eqv_int (fun x y => beq_iff_eq) xs ys
  unfold dI
  simp only [PyData.eqv]
  by_cases e : xs = ys
  · rw [h.mpr e, decide_eq_true e]
  · rw [decide_eq_false e]
    exact Bool.eq_false_iff.mpr fun z => e (h.mp z)
theorem dS_eqv (p q : Nat × Nat) : PyData.eqv (dS p) (dS q) = decide (p = q) := by
  obtain ⟨a, b⟩ := p
  obtain ⟨c, d⟩ := q
  have e : PyData.eqv (dS (a, b)) (dS (c, d)) = (decide (a = c) && decide (b = d)) := by
    simp only [dS, PyData.eqv, PyData.eqvAll]
    by_cases h1 : a = c <;> by_cases h2 : b = d <;> simp [h1, h2] <;> omega
  rw [e]
  by_cases h1 : a = c <;> by_cases h2 : b = d <;> simp [h1, h2]
theorem steps_eqv (xs ys : List (Nat × Nat)) : PyData.eqvAll (xs.map dS) (ys.map dS) = decide (xs = ys) := by
  have h := all_eqv dS (fun x y => decide (x = y)) dS_eqv (fun x y => by simp) xs ys
  by_cases e : xs = ys
  · rw [h.mpr e, decide_eq_true e]
  · rw [decide_eq_false e]
    exact Bool.eq_false_iff.mpr fun z => e (h.mp z)
theorem dP_eqv (xs ys : List (Nat × Nat)) : PyData.eqv (dP xs) (dP ys) = decide (xs = ys) := by
  unfold dP
  simp only [PyData.eqv]
  exact steps_eqv xs ys
theorem dI_lay (ns : List Int) : (dI ns).canLay0 = true := by
  have := lay_all PyData.int (fun x => by simp [PyData.canLay0]) ns
  simp [dI, PyData.canLay0, this]
theorem dI_deep (ns : List Int) : (dI ns).depth ≤ 1 := by
  have := deep_all PyData.int 0 (fun x => by simp [PyData.depth]) ns
  simp [dI, PyData.depth]
  omega
theorem dS_lay (p : Nat × Nat) : (dS p).canLay0 = true := by simp [dS, PyData.canLay0, PyData.canLayAll0]
theorem dS_deep (p : Nat × Nat) : (dS p).depth ≤ 1 := by simp [dS, PyData.depth, PyData.depthAll]
theorem dP_lay (ps : List (Nat × Nat)) : (dP ps).canLay0 = true := by
  have := lay_all dS dS_lay ps
  simp [dP, PyData.canLay0, this]
theorem dP_deep (ps : List (Nat × Nat)) : (dP ps).depth ≤ 2 := by
  have := deep_all dS 1 dS_deep ps
  simp [dP, PyData.depth]
  omega
theorem dI_ok (ns : List Int) : SeqAt.shaped (dI ns) = true := shaped_mk (dI_lay ns) (Nat.le_trans (dI_deep ns) (by decide))
theorem dS_ok (p : Nat × Nat) : SeqAt.shaped (dS p) = true := shaped_mk (dS_lay p) (Nat.le_trans (dS_deep p) (by decide))
theorem dP_ok (ps : List (Nat × Nat)) : SeqAt.shaped (dP ps) = true := shaped_mk (dP_lay ps) (Nat.le_trans (dP_deep ps) (by decide))
theorem dpall_ints {K : PySem.W.Frag} {H : Hp} : ∀ ns : List Int, DpAll K H (ns.map V.int) (ns.map PyData.int)
  | [] => .nil
  | n :: ns => .cons (.int n) (dpall_ints ns)
theorem dp_I {K : PySem.W.Frag} {H : Hp} {a : Addr} {ns : List Int} (h : SqT K H a (ns.map V.int)) : Dp K H (.ref a) (dI ns) := .tup h (dpall_ints ns)
theorem dp_S {K : PySem.W.Frag} {H : Hp} {a : Addr} {i j : Nat} (h : SqT K H a [.int (i : Int), .int (j : Int)]) : Dp K H (.ref a) (dS (i, j)) := .tup h (.cons (.int _) (.cons (.int _) .nil))
mutual
theorem dp_same {K : PySem.W.Frag} {H H' : Hp} (s : Same H H') : ∀ {v : V} {d : PyData}, Dp K H v d → Dp K H' v d
  | _, _, .non => .non
  | _, _, .bl b => .bl b
  | _, _, .int i => .int i
  | _, _, .str x => .str x
  | _, _, .lst h a => .lst (s.seq h) (dpall_same s a)
  | _, _, .tup h a => .tup (Same.tup s h) (dpall_same s a)
theorem dpall_same {K : PySem.W.Frag} {H H' : Hp} (s : Same H H') : ∀ {vs : List V} {ds : List PyData}, DpAll K H vs ds → DpAll K H' vs ds
  | _, _, .nil => .nil
  | _, _, .cons h t => .cons (dp_same s h) (dpall_same s t)
end
theorem dpall_get {K : PySem.W.Frag} {H : Hp} : ∀ {vs : List V} {ds : List PyData} {i : Nat} {v : V}, DpAll K H vs ds → vs[i]? = some v → ∃ d, ds[i]? = some d ∧ Dp K H v d
  | _, _, _, _, .nil, e => by simp at e
  | _, _, 0, _, .cons h t, e => by
    simp at e
    subst e
    exact ⟨_, rfl, h⟩
  | _, _, i + 1, _, .cons h t, e => by
    obtain ⟨d, e1, e2⟩ := dpall_get (i := i) t (by simpa using e)
    exact ⟨d, by simpa using e1, e2⟩
theorem dpall_len {K : PySem.W.Frag} {H : Hp} : ∀ {vs : List V} {ds : List PyData}, DpAll K H vs ds → vs.length = ds.length
  | _, _, .nil => rfl
  | _, _, .cons h t => by rw [List.length_cons, List.length_cons, dpall_len t]
end Hd
set_option maxHeartbeats 4000000
namespace Hd
open PySem PySem.Spec PyProof.Rows L2
def top (i : Nat) : Stmt := PySem.Challenge.pw_heapsdouble_k06_whole_led_desk.main.body.getD i (.Pass ⟨0, 0, 0, 0⟩)
/-! ### the draws -/
structure Tx (K : PySem.W.Frag) (mg : Str → Option Value) : Prop where
  int : mg "int" = none
  list : mg "list" = none
  max : mg "max" = none
  len : mg "len" = none
  tuple : mg "tuple" = none
  range : mg "range" = none
/-- the source of draws at h: [state, cells, index], the cells at c -/
structure DrawAt (H : Hp) (h c : Addr) : Prop where
  ex : ∃ (st ix : Int) (cells : List Int), H h = some (.lst [.int st, .ref c, .int ix]) ∧ H c = some (.lst (cells.map V.int)) ∧ cells.length ≤ 63
  ne : h ≠ c
/-- all but the source stands as it stood -/
def Kept (h c : Addr) (H H' : Hp) : Prop := ∀ a o, H a = some o → a ≠ h → a ≠ c → H' a = some o
theorem Kept.refl {h c : Addr} {H : Hp} : Kept h c H H := fun _ _ e _ _ => e
theorem Kept.of {h c : Addr} {H H' : Hp} (e : Same H H') : Kept h c H H' := fun a o q _ _ => e a o q
theorem Kept.trans {h c : Addr} {H H1 H2 : Hp} (a : Kept h c H H1) (b : Kept h c H1 H2) : Kept h c H H2 := fun x o e n m => b x o (a x o e n m) n m
theorem Kept.new {h c : Addr} {H H1 : Hp} {p : Addr} {o : HO} (a : Kept h c H H1) (hp : H p = none) : Kept h c H (upd H1 p o) := fun x u e n m => by
  rw [upd_ne (ne_of_none e hp)]
  exact a x u e n m
theorem Kept.at_h {h c : Addr} {H H1 : Hp} {o : HO} (a : Kept h c H H1) : Kept h c H (upd H1 h o) := fun x u e n m => by
  rw [upd_ne n]
  exact a x u e n m
theorem Kept.at_c {h c : Addr} {H H1 : Hp} {o : HO} (a : Kept h c H H1) : Kept h c H (upd H1 c o) := fun x u e n m => by
  rw [upd_ne m]
  exact a x u e n m
theorem DrawAt.new {H : Hp} {h c p : Addr} {o : HO} (d : DrawAt H h c) (hp : H p = none) : DrawAt (upd H p o) h c := by
  obtain ⟨⟨st, ix, cells, h1, h2, h3⟩, ne⟩ := d
  exact ⟨⟨st, ix, cells, by rw [upd_ne (ne_of_none h1 hp)]; exact h1, by rw [upd_ne (ne_of_none h2 hp)]; exact h2, h3⟩, ne⟩
theorem DrawAt.upd {H : Hp} {h c p : Addr} {o : HO} (d : DrawAt H h c) (hh : p ≠ h) (hc : p ≠ c) : DrawAt (upd H p o) h c := by
  obtain ⟨⟨st, ix, cells, h1, h2, h3⟩, ne⟩ := d
  exact ⟨⟨st, ix, cells, by rw [upd_ne (Ne.symm hh)]; exact h1, by rw [upd_ne (Ne.symm hc)]; exact h2, h3⟩, ne⟩
theorem DrawAt.same {H H' : Hp} {h c : Addr} (d : DrawAt H h c) (e : Same H H') : DrawAt H' h c := by
  obtain ⟨⟨st, ix, cells, h1, h2, h3⟩, ne⟩ := d
  exact ⟨⟨st, ix, cells, e _ _ h1, e _ _ h2, h3⟩, ne⟩
theorem DrawAt.nots {H : Hp} {h c p : Addr} (d : DrawAt H h c) (hp : H p = none) : p ≠ h ∧ p ≠ c := by
  obtain ⟨⟨st, ix, cells, h1, h2, h3⟩, ne⟩ := d
  exact ⟨(ne_of_none h1 hp).symm, (ne_of_none h2 hp).symm⟩
theorem Kept.free {h c p : Addr} {H H' : Hp} (k : Kept h c H H') (d : DrawAt H' h c) (hp : H' p = none) : H p = none := by
  obtain ⟨n1, n2⟩ := d.nots hp
  cases e : H p with
  | none => rfl
  | some o =>
    rw [k p o e n1 n2] at hp
    cases hp
theorem Kept.tup {K : PySem.W.Frag} {h c a : Addr} {H H' : Hp} {xs : List V} (k : Kept h c H H') (d : DrawAt H h c) (q : SqT K H a xs) : SqT K H' a xs := by
  obtain ⟨⟨st, ix, cells, h1, h2, h3⟩, ne⟩ := d
  rcases q with (q | ⟨o, q⟩) | q
  · exact .inl (.inl (k _ _ q (ne_of q h1 (by intro z; cases z)) (ne_of q h2 (by intro z; cases z))))
  · exact .inl (.inr ⟨o, k _ _ q (ne_of q h1 (by intro z; cases z)) (ne_of q h2 (by intro z; cases z))⟩)
  · exact .inr q
def spMix (K : PySem.W.Frag) : Sp := fun vs H Q _ => ∃ (a : Addr) (ns : List Int) (seed : Int), vs = [.ref a, .int seed] ∧ SqL K H a (ns.map V.int) ∧ ns.length ≤ 63 ∧
  ∀ (h c : Addr) (H' : Hp), H h = none → H c = none → Same H H' → DrawAt H' h c → Q (.ref h) H'
def spNext : Sp := fun vs H Q _ => ∃ (h c : Addr) (b : Int), vs = [.ref h, .int b] ∧ DrawAt H h c ∧ 0 < b ∧ b < 2 ^ 200 ∧
  ∀ (n : Int) (H' : Hp), 0 ≤ n → n < b → DrawAt H' h c → Kept h c H H' → Q (.int n) H'
/-- the place of the drawn cell -/
theorem draw_ix (cells : List Int) (ix : Int) : ∃ (j : Nat) (z : Int), ix % (if (cells.length : Int) > 1 then (cells.length : Int) else 1) = (j : Int) ∧ (cells.map V.int ++ [V.int 0])[j]? = some (.int z) ∧ (cells = [] → z = 0) ∧ (cells ≠ [] → j < cells.length ∧ (if (cells.length : Int) > 1 then (cells.length : Int) else 1) = (cells.length : Int)) := by
  have hm : 0 < (if (cells.length : Int) > 1 then (cells.length : Int) else 1) := by split <;> omega
  have h0 := Int.emod_nonneg ix (Int.ne_of_gt hm)
  have h1 := Int.emod_lt_of_pos ix hm
  obtain ⟨j, hj⟩ := Int.eq_ofNat_of_zero_le h0
  rw [hj] at h1
  cases cells with
  | nil =>
    refine ⟨j, 0, hj, ?_, fun _ => rfl, fun h => absurd rfl h⟩
    simp at h1
    have : j = 0 := by omega
    subst this
    rfl
  | cons x r =>
    have hm2 : (if (((x :: r).length : Nat) : Int) > 1 then (((x :: r).length : Nat) : Int) else 1) = (((x :: r).length : Nat) : Int) := by
      split
      · rfl
      · have : (((x :: r).length : Nat) : Int) ≥ 1 := by rw [List.length_cons]; omega
        omega
    rw [hm2] at h1
    have hlt : j < (x :: r).length := by omega
    refine ⟨j, (x :: r)[j], hj, ?_, fun h => (nomatch h), fun _ => ⟨hlt, hm2⟩⟩
    rw [List.getElem?_append_left (by rw [List.length_map]; exact hlt), List.getElem?_map, List.getElem?_eq_getElem hlt]
    rfl
theorem int_at {ns : List Int} {i : Nat} {y : V} (hi : (ns.map V.int)[i]? = some y) : ∃ z, ns[i]? = some z ∧ y = V.int z := by
  rw [List.getElem?_map] at hi
  cases e : ns[i]? with
  | none =>
    rw [e] at hi
    cases hi
  | some z =>
    rw [e] at hi
    exact ⟨z, rfl, (Option.some.inj hi).symm⟩
section
variable {P : Program} {w : World} {K : PySem.W.Frag} {mg : Str → Option Value} {base : Heap}
abbrev s_l_mix : Stmt := top 22
theorem sc_l_mix : FnScope ["_law_script", "_law_seed", "_law_state", "_law_cell"] ["_law_script", "_law_seed"] (defScope s_l_mix) := ⟨rfl, rfl, rfl, by decide +kernel, rfl, by decide +kernel, by decide +kernel⟩
theorem ok_mix {f : Addr} {fd : FuncData} (F : Fun K "_law_mix" "_law_mix" s_l_mix f fd) (T : Tx K mg) : FnOk P w K mg base CX0 1 f fd ["_law_script", "_law_seed"] (spMix K) := by
  refine F.ok sc_l_mix (fun vs H Q E h => ?_) (fun cdv A outer s H vs Q E hr h => ?_)
  · obtain ⟨a, ns, seed, rfl, _⟩ := h
    rfl
  · obtain ⟨a, ns, seed, rfl, hS, hlen, k⟩ := h
    refine ⟨_, (pss_cons (ps_set (i := 2) sc_l_mix.nd rfl (Or.inl rfl) (pv 1))
      (pss_cons (ps_for PassesOwn.never rfl (pi_list (pv 0)) (pg_name (i := 3) sc_l_mix.nd rfl (Or.inl rfl))
      (pss_one (ps_set (i := 2) sc_l_mix.nd rfl (Or.inl rfl) (pe_op op_mod (pe_callTy call_int1 (by rfl) T.int (by decide +kernel) (pa_cons (pe_op op_add (pe_op op_add (pe_op op_mul (pv 2) pe_int) (pe_op op_mod (pe_callTy call_int1 (by rfl) T.int (by decide +kernel) (pa_cons (pv 3) pa_nil)) pe_int)) pe_int) pa_nil)) pe_int))))
      (pss_one (ps_ret (pe_lst (pa_cons (pv 2) (pa_cons (pe_callTy call_list_of (by rfl) T.list (by decide +kernel) (pa_cons (pv 0) pa_nil)) (pa_cons pe_int pa_nil)))))))), ?_⟩
    refine ⟨_, rfl, _, rfl, a, rfl, ⟨_, hS⟩, for_list (K := K) (a := a) (xs := ns.map V.int) (fun i σ H2 => ∃ (st : Int) (v : Option V), σ = [some (.ref a), some (.int seed), some (.int st), v] ∧ H2 = H)
      ⟨seed, none, rfl, rfl⟩ (fun i σ H2 _ ⟨_, _, _, e⟩ => by rw [e]; exact hS) ?_ ?_⟩
    · rintro i y σ H2 hi ⟨st, v, rfl, rfl⟩
      obtain ⟨z, _, rfl⟩ := int_at hi
      refine ⟨_, rfl, _, _, rfl, rfl, .inr ⟨by decide, by decide⟩, _, rfl, .inl ⟨_, rfl, _, _, rfl, rfl, (by show (0 : Int) < 2147483629; decide), _, _, rfl, rfl, _, _, rfl, rfl, .inl ⟨_, rfl, _, _, rfl, rfl, (by show (0 : Int) < 2147483647; decide), ?_⟩⟩⟩
      exact ⟨_, _, rfl, rfl⟩
    · rintro σ H2 ⟨st, v, rfl, rfl⟩
      refine ⟨_, rfl, _, rfl, a, _, rfl, .inl hS, fun c hc => ⟨by show 3 ≤ sizeLine; decide, fun h hh => ?_⟩⟩
      have hch : h ≠ c := fun e => by
        rw [e, upd_same] at hh
        cases hh
      have hh0 : H2 h = none := by
        rw [upd_ne hch] at hh
        exact hh
      refine k h c _ hh0 hc (same_upd (same_upd (Same.refl _) hc) hh0) ⟨⟨st, 0, ns, upd_same, by rw [upd_ne hch.symm, upd_same], hlen⟩, hch⟩
abbrev s_l_next : Stmt := top 23
theorem sc_l_next : FnScope ["_law_h", "_law_bound", "_law_cell", "_law_cells"] ["_law_h", "_law_bound"] (defScope s_l_next) := ⟨rfl, rfl, rfl, by decide +kernel, rfl, by decide +kernel, by decide +kernel⟩
theorem ok_next {f : Addr} {fd : FuncData} (F : Fun K "_law_next" "_law_next" s_l_next f fd) (T : Tx K mg) : FnOk P w K mg base CX0 1 f fd ["_law_h", "_law_bound"] spNext := by
  refine F.ok sc_l_next (fun vs H Q E h => ?_) (fun cdv A outer s H vs Q E hr h => ?_)
  · obtain ⟨a, c, b, rfl, _⟩ := h
    rfl
  · obtain ⟨h, c, b, rfl, D, hb, hb2, k⟩ := h
    obtain ⟨⟨st, ix, cells, hh, hc, hl⟩, hne0⟩ := id D
    refine ⟨_, (pss_cons (ps_set (i := 2) sc_l_next.nd rfl (Or.inl rfl) (pe_ix ix_list (pe_op op_cat (pe_ix ix_list (pv 0) pe_int (fun _ _ => rfl)) (pe_lst (pa_cons pe_int pa_nil))) (pe_op op_mod (pe_callTy call_int1 (by rfl) T.int (by decide +kernel) (pa_cons (pe_ix ix_list (pv 0) pe_int (fun _ _ => rfl)) pa_nil)) (pe_callB (call_max2 rfl) (by rfl) T.max (by decide +kernel) (pa_cons pe_int (pa_cons (pe_callB call_len_seq (by rfl) T.len PySem.boot_len (pa_cons (pe_ix ix_list (pv 0) pe_int (fun _ _ => rfl)) pa_nil)) pa_nil)))) (fun _ _ => rfl)))
      (pss_cons (ps_if (pt_cmpR op_ge (pv 2) (pe_op op_pow pe_int pe_int) (nomark _)) (pss_cons (ps_set (i := 3) sc_l_next.nd rfl (Or.inl rfl) (pe_ix ix_list (pv 0) pe_int (fun _ _ => rfl)))
      (pss_cons (ps_asg (pe_op op_fdivW (pv 2) (pv 1)) (pg_sub (pv 3) (pe_op op_mod (pe_callTy call_int1 (by rfl) T.int (by decide +kernel) (pa_cons (pe_ix ix_list (pv 0) pe_int (fun _ _ => rfl)) pa_nil)) (pe_callB call_len_seq (by rfl) T.len PySem.boot_len (pa_cons (pv 3) pa_nil))) set_list))
      (pss_one (ps_ret (pe_op op_mod (pe_callTy call_int1 (by rfl) T.int (by decide +kernel) (pa_cons (pv 2) pa_nil)) (pv 1)))))) pss_nil)
      (pss_cons (ps_asg (pe_op op_mod (pe_callTy call_int1 (by rfl) T.int (by decide +kernel) (pa_cons (pe_op op_add (pe_op op_add (pe_op op_mul (pe_ix ix_list (pv 0) pe_int (fun _ _ => rfl)) pe_int) (pe_op op_mul (pv 2) pe_int)) pe_int) pa_nil)) pe_int) (pg_sub (pv 0) pe_int set_list))
      (pss_cons (ps_asg (pe_op op_add (pe_ix ix_list (pv 0) pe_int (fun _ _ => rfl)) pe_int) (pg_sub (pv 0) pe_int set_list))
      (pss_one (ps_ret (pe_op op_mod (pe_callTy call_int1 (by rfl) T.int (by decide +kernel) (pa_cons (pe_op op_fdiv (pe_ix ix_list (pv 0) pe_int (fun _ _ => rfl)) pe_int) pa_nil)) (pv 1)))))))), ?_⟩
    obtain ⟨j, z, ej, ez, e0, e1⟩ := draw_ix cells ix
    -- _law_cell
    refine ⟨_, rfl, h, _, _, _, rfl, rfl, SqL.of hh, rfl, by show 1 ≤ sizeLine; decide, fun p hp => ?_⟩
    have nph : h ≠ p := ne_of_none hh hp
    have npc : c ≠ p := ne_of_none hc hp
    refine ⟨c, p, _, _, rfl, rfl, by rw [upd_ne npc]; exact hc, upd_same, ?_, fun q hq => ?_⟩
    · rw [List.length_map, sizeLine_eq]
      show cells.length + 1 ≤ _
      omega
    have nqp : p ≠ q := ne_of_none upd_same hq
    have hq' : H q = none := by
      rw [upd_ne nqp.symm] at hq
      exact hq
    have nqh : h ≠ q := ne_of_none hh hq'
    have nqc : c ≠ q := ne_of_none hc hq'
    have hh2 : (upd (upd H p (.lst [.int 0])) q (.lst (cells.map V.int ++ [.int 0]))) h = some (.lst [.int st, .ref c, .int ix]) := by rw [upd_ne nqh, upd_ne nph]; exact hh
    have hc2 : (upd (upd H p (.lst [.int 0])) q (.lst (cells.map V.int ++ [.int 0]))) c = some (.lst (cells.map V.int)) := by rw [upd_ne nqc, upd_ne npc]; exact hc
    have hq2 : (upd (upd H p (.lst [.int 0])) q (.lst (cells.map V.int ++ [.int 0]))) q = some (.lst (cells.map V.int ++ [.int 0])) := upd_same
    have kk : Kept h c H (upd (upd H p (.lst [.int 0])) q (.lst (cells.map V.int ++ [.int 0]))) := (Kept.refl.new hp).new hq'
    generalize upd (upd H p (.lst [.int 0])) q (.lst (cells.map V.int ++ [.int 0])) = H2 at hh2 hc2 hq2 kk ⊢
    refine ⟨_, rfl, h, _, _, _, rfl, rfl, SqL.of hh2, rfl, .inl ⟨_, rfl, _, rfl, h, _, _, _, rfl, rfl, SqL.of hh2, rfl, c, _, rfl, .inl (SqL.of hc2), _, _, rfl, ?_⟩⟩
    rw [List.length_map]
    refine ⟨_, _, rfl, rfl, (by split <;> omega), q, _, _, _, rfl, rfl, SqL.of hq2, at_of ej ez, ?_⟩
    -- if _law_cell >= 10 ** 18
    refine ⟨_, rfl, _, _, rfl, rfl, ⟨by decide, by decide, by decide⟩, _, _, rfl, rfl, _, rfl, ?_⟩
    refine ite2 (fun hge => ?_) (fun _ => ?_)
    · have hz : (10 : Int) ^ 18 ≤ z := of_decide_eq_true hge
      have hz0 : z ≠ 0 := by omega
      have hne : cells ≠ [] := fun e => hz0 (e0 e)
      obtain ⟨hj, em⟩ := e1 hne
      rw [em] at ej
      refine ⟨_, rfl, h, _, _, _, rfl, rfl, SqL.of hh2, rfl, _, rfl, _, rfl, _, _, rfl, rfl, wide_div hb (b := 200) ?_ (by decide) (by decide), ?_⟩
      · omega
      refine ⟨_, rfl, _, rfl, h, _, _, _, rfl, rfl, SqL.of hh2, rfl, .inl ⟨_, rfl, _, rfl, c, _, rfl, .inl (SqL.of hc2), _, _, rfl, rfl, ?_, ?_⟩⟩
      · rw [List.length_map]
        omega
      refine ⟨c, _, _, j, rfl, rfl, hc2, ?_, ?_⟩
      · rw [List.length_map, ej]
        unfold ixN
        rw [if_pos (by omega), if_pos (by omega)]
        simp
      refine ⟨_, rfl, .inl ⟨_, rfl, _, rfl, _, _, rfl, rfl, hb, ?_⟩⟩
      refine k _ _ (Int.emod_nonneg _ (by omega)) (Int.emod_lt_of_pos _ hb) ⟨⟨st, ix, cells.set j (z / b), ?_, ?_, by rw [List.length_set]; exact hl⟩, hne0⟩ kk.at_c
      · rw [upd_ne hne0]
        exact hh2
      · rw [upd_same, List.map_set]
    · -- _law_h[0] = ..
      refine ⟨_, rfl, h, _, _, _, rfl, rfl, SqL.of hh2, rfl, _, _, rfl, rfl, .inr ⟨by decide, by decide⟩, _, rfl, _, _, rfl, rfl, .inr ⟨by decide, by decide⟩, _, _, rfl, rfl, _, _, rfl, rfl, .inl ⟨_, rfl, _, _, rfl, rfl, (by show (0 : Int) < 2147483647; decide), ?_⟩⟩
      refine ⟨_, rfl, h, _, _, 0, rfl, rfl, hh2, rfl, ?_⟩
      -- _law_h[2] = _law_h[2] + 1
      refine ⟨_, rfl, h, _, _, _, rfl, rfl, SqL.of upd_same, rfl, _, _, rfl, rfl, _, rfl, h, _, _, 2, rfl, rfl, upd_same, rfl, ?_⟩
      refine ⟨_, rfl, h, _, _, _, rfl, rfl, SqL.of upd_same, rfl, _, _, rfl, rfl, ⟨by decide, by decide⟩, .inl ⟨_, rfl, _, rfl, _, _, rfl, rfl, hb, ?_⟩⟩
      refine k _ _ (Int.emod_nonneg _ (by omega)) (Int.emod_lt_of_pos _ hb) ⟨⟨_, _, cells, upd_same, ?_, hl⟩, hne0⟩ kk.at_h.at_h
      rw [upd_ne hne0.symm, upd_ne hne0.symm]
      exact hc2
/-- heaps are drawn: so many, none below 0, not all empty -/
structure HeapsOk (least most : Nat) (ns : List Int) : Prop where
  lo : least ≤ ns.length
  hi : ns.length ≤ most
  ge : ∀ n ∈ ns, 0 ≤ n
  le : ∀ n ∈ ns, n ≤ 10 ^ 30
  pos : ∃ n ∈ ns, 0 < n
def spHeaps : Sp := fun vs H Q _ => ∃ (h c : Addr) (least most : Nat), vs = [.ref h, .int (least : Int), .int (most : Int)] ∧ DrawAt H h c ∧ 1 ≤ least ∧ least ≤ most ∧ most ≤ 6 ∧
  ∀ (t : Addr) (ns : List Int) (H' : Hp), HeapsOk least most ns → H t = none → TupZ H' t (ns.map V.int) → DrawAt H' h c → Kept h c H H' → Q (.ref t) H'
theorem pick5 {x0 x1 x2 x3 x4 : Int} {n : Int} (h0 : 0 ≤ n) (h5 : n < 5) : ∃ z, atI [V.int x0, V.int x1, V.int x2, V.int x3, V.int x4] n = some (V.int z) ∧ z ∈ [x0, x1, x2, x3, x4] := by
  have : n = 0 ∨ n = 1 ∨ n = 2 ∨ n = 3 ∨ n = 4 := by omega
  rcases this with e | e | e | e | e <;> subst e <;> exact ⟨_, rfl, by simp⟩
abbrev s_l_heaps : Stmt := top 24
theorem sc_l_heaps : FnScope ["_law_h", "_law_least", "_law_most", "_law_size", "_law_far", "_law_part", "_law_found", "_law_k"] ["_law_h", "_law_least", "_law_most"] (defScope s_l_heaps) := ⟨rfl, rfl, rfl, by decide +kernel, rfl, by decide +kernel, by decide +kernel⟩
theorem ok_heaps {f : Addr} {fd : FuncData} (F : Fun K "_law_heaps" "_law_heaps" s_l_heaps f fd) (T : Tx K mg) (C_l_next : Cal P w K mg base CX0 1 "_law_next" ["_law_h", "_law_bound"] spNext) : FnOk P w K mg base CX0 2 f fd ["_law_h", "_law_least", "_law_most"] spHeaps := by
  refine F.ok sc_l_heaps (fun vs H Q E h => ?_) (fun cdv A outer s H vs Q E hr h => ?_)
  · obtain ⟨a, c, l, m, rfl, _⟩ := h
    rfl
  · obtain ⟨h, c, least, most, rfl, D, h1, h2, h3, k⟩ := h
    refine ⟨_, (pss_cons (ps_set (i := 3) sc_l_heaps.nd rfl (Or.inl rfl) (pe_op op_add (pv 1) (pe_cal C_l_next hr rfl pass0 (pa_cons (pv 0) (pa_cons (pe_op op_add (pe_op op_sub (pv 2) (pv 1)) pe_int) pa_nil)))))
      (pss_cons (ps_set (i := 4) sc_l_heaps.nd rfl (Or.inr rfl) (pe_ix ix_list (pe_lst (pa_cons pe_int (pa_cons pe_int (pa_cons pe_int (pa_cons (pe_op op_pow pe_int pe_int) (pa_cons (pe_op op_pow pe_int pe_int) pa_nil)))))) (pe_cal C_l_next hr rfl pass0 (pa_cons (pv 0) (pa_cons pe_int pa_nil))) (fun _ _ => rfl)))
      (pss_cons (ps_set (i := 5) sc_l_heaps.nd rfl (Or.inr rfl) (pe_ix ix_list (pe_lst (pa_cons pe_int (pa_cons pe_int (pa_cons pe_int (pa_cons pe_int (pa_cons pe_int pa_nil)))))) (pe_cal C_l_next hr rfl pass0 (pa_cons (pv 0) (pa_cons pe_int pa_nil))) (fun _ _ => rfl)))
      (pss_cons (ps_setLc (i := 6) (own := [("_law_k", 7)]) (g := gName 7) (by rfl) sc_l_heaps.nd rfl rfl (sw_true rfl rfl rfl (by decide +kernel)) (pi_range1 rfl T.range (pa_cons (pv 3) pa_nil)) (blkOk_by (own := [("_law_k", 7)]) (N := ["_law_h", "_law_least", "_law_most", "_law_size", "_law_far", "_law_part", "_law_found", "_law_k"]) (sc := defScope s_l_heaps) (by decide +kernel)) (fun _ _ _ _ _ => pg_name (i := 7) sc_l_heaps.nd rfl (Or.inl rfl)) (fun _ _ _ _ _ => pts_nil) (fun _ _ _ _ _ => (pe_op op_mul (pv 5) (pe_cal C_l_next hr rfl pass0 (pa_cons (pv 0) (pa_cons (pv 4) pa_nil))))))
      (pss_cons (ps_if (pt_cmpR op_eq (pe_callB (cr_max rfl) (by rfl) T.max (by decide +kernel) (pa_cons (pv 6) pa_nil)) pe_int (nomark _)) (pss_one (ps_asg (pv 5) (pg_sub (pv 6) (pe_cal C_l_next hr rfl pass0 (pa_cons (pv 0) (pa_cons (pv 3) pa_nil))) set_list))) pss_nil)
      (pss_one (ps_ret (pe_callTy call_tupleZ (by rfl) T.tuple (by decide +kernel) (pa_cons (pv 6) pa_nil))))))))), ?_⟩
    -- _law_size
    refine ⟨_, rfl, _, rfl, _, rfl, _, rfl, _, _, rfl, rfl, _, _, rfl, rfl, h, c, _, rfl, D, by omega, by omega, fun n1 H1 l1 u1 D1 k1 => ⟨_, _, rfl, rfl, ?_⟩⟩
    obtain ⟨n1, rfl⟩ := Int.eq_ofNat_of_zero_le l1
    -- _law_far
    refine ⟨_, _, rfl, rfl, ⟨by decide, by decide, by decide⟩, _, _, rfl, rfl, ⟨by decide, by decide, by decide⟩, by show 5 ≤ sizeLine; decide, fun p hp => ?_⟩
    refine ⟨_, rfl, h, c, _, rfl, D1.new hp, by omega, by omega, fun n2 H2 l2 u2 D2 k2 => ?_⟩
    obtain ⟨np1, np2⟩ := D1.nots hp
    obtain ⟨far, e2, far_in⟩ := pick5 (x0 := 4) (x1 := 9) (x2 := 60) (x3 := 10 ^ (15 : Int).toNat) (x4 := 10 ^ (29 : Int).toNat) l2 u2
    refine ⟨p, _, _, _, rfl, rfl, SqL.of (k2 p _ upd_same np1 np2), e2, ?_⟩
    have hfar : 0 < far ∧ far ≤ 10 ^ 29 := by
      simp only [List.mem_cons, List.mem_nil_iff, or_false] at far_in
      rcases far_in with e | e | e | e | e <;> subst e <;> decide
    have k2' : Kept h c H H2 := (k1.new (k1.free D1 hp)).trans k2
    -- _law_part
    refine ⟨by show 5 ≤ sizeLine; decide, fun p3 hp3 => ?_⟩
    refine ⟨_, rfl, h, c, _, rfl, D2.new hp3, by omega, by omega, fun n3 H3 l3 u3 D3 k3 => ?_⟩
    obtain ⟨mp1, mp2⟩ := D2.nots hp3
    obtain ⟨part, e3, part_in⟩ := pick5 (x0 := 1) (x1 := 1) (x2 := 2) (x3 := 3) (x4 := 8) l3 u3
    refine ⟨p3, _, _, _, rfl, rfl, SqL.of (k3 p3 _ upd_same mp1 mp2), e3, ?_⟩
    have hpart : 1 ≤ part ∧ part ≤ 8 := by
      simp only [List.mem_cons, List.mem_nil_iff, or_false] at part_in
      rcases part_in with e | e | e | e | e <;> subst e <;> decide
    have k3' : Kept h c H H3 := (k2'.new (k2'.free D2 hp3)).trans k3
    -- _law_found
    refine ⟨_, rfl, _, rfl, by omega, by omega, ?_⟩
    have esz : ((least : Int) + (n1 : Int)).toNat = least + n1 := by omega
    rw [esz]
    intro DD hDD
    obtain ⟨dd1, dd2⟩ := D3.nots hDD
    refine lc_range (lo := 0) (n := least + n1) (fun i H4 => ∃ ms : List Int, H4 DD = some (.lst (ms.map V.int)) ∧ ms.length = i ∧ (∀ m ∈ ms, 0 ≤ m ∧ m ≤ 8 * 10 ^ 29) ∧ DrawAt H4 h c ∧ Kept h c H H4) ?_ ?_ ?_
    · exact ⟨[], upd_same, rfl, fun m hm => (nomatch hm), D3.new hDD, k3'.new (k3'.free D3 hDD)⟩
    · rintro i H4 hi ⟨ms, hms, hlen, hb, D4, k4⟩
      refine ⟨rfl, _, rfl, _, rfl, _, rfl, h, c, far, rfl, D4, hfar.1, by omega, fun n H5 l5 u5 D5 k5 => ⟨_, _, rfl, rfl, .inl ⟨by omega, by omega⟩, ms.map V.int, k5 DD _ hms dd1 dd2, ?_, ?_⟩⟩
      · rw [List.length_map, sizeLine_eq]
        omega
      refine ⟨ms ++ [part * n], by rw [upd_same, List.map_append]; rfl, by rw [List.length_append, hlen]; rfl, fun m hm => ?_, D5.upd dd1 dd2, (k4.trans k5).new (k3'.free D3 hDD)⟩
      rcases List.mem_append.mp hm with hm | hm
      · exact hb m hm
      · have em : m = part * n := by simpa using hm
        subst em
        refine ⟨Int.mul_nonneg (by omega) l5, ?_⟩
        have q := Int.mul_le_mul (a := part) (b := n) (c := 8) (d := 10 ^ 29) hpart.2 (by omega) l5 (by omega)
        exact q
    · rintro H4 ⟨ms, hms, hlen, hb, D4, k4⟩
      have hlen' : ms.length ≤ most := by omega
      have hpos : 0 < ms.length := by omega
      refine ⟨_, rfl, DD, ms, rfl, SqL.of hms, hpos, fun m hm hle => ⟨rfl, _, rfl, ?_⟩⟩
      refine ite2 (fun hz => ?_) (fun hz => ?_)
      · refine ⟨_, rfl, _, rfl, _, rfl, _, rfl, h, c, _, rfl, D4, by omega, by omega, fun n H5 l5 u5 D5 k5 => ?_⟩
        obtain ⟨n, rfl⟩ := Int.eq_ofNat_of_zero_le l5
        have hn : n < ms.length := by omega
        refine ⟨DD, _, _, n, rfl, rfl, k5 DD _ hms dd1 dd2, ?_, ?_⟩
        · rw [List.length_map]
          unfold ixN
          rw [if_pos (by omega), if_pos (by omega)]
          simp
        refine ⟨_, rfl, DD, _, rfl, SqL.of upd_same, fun t o ht ho => ?_⟩
        have htD : t ≠ DD := fun e => by
          rw [e, upd_same] at ht
          cases ht
        have D6 := D5.upd (o := .lst ((ms.map V.int).set n (.int part))) dd1 dd2
        have k6 : Kept h c H (upd H5 DD (.lst ((ms.map V.int).set n (.int part)))) := (k4.trans k5).new (k3'.free D3 hDD)
        refine k t (ms.set n part) _ ⟨by rw [List.length_set]; omega, by rw [List.length_set]; omega, fun y hy => ?_, fun y hy => ?_, ⟨part, ?_, by omega⟩⟩ (k6.free D6 ht) ⟨o, ho, by rw [upd_same, List.map_set]⟩ (D6.new ht) (k6.new (k6.free D6 ht))
        · rcases List.mem_or_eq_of_mem_set hy with hy | hy
          · exact (hb y hy).1
          · omega
        · rcases List.mem_or_eq_of_mem_set hy with hy | hy
          · have := (hb y hy).2
            omega
          · omega
        · exact List.mem_iff_getElem?.mpr ⟨n, by rw [List.getElem?_set_self hn]⟩
      · refine ⟨_, rfl, DD, _, rfl, SqL.of hms, fun t o ht ho => ?_⟩
        have hm0 : m ≠ 0 := fun e => hz (decide_eq_true (by rw [e]))
        have := (hb m hm).1
        refine k t ms _ ⟨by omega, hlen', fun y hy => (hb y hy).1, fun y hy => ?_, ⟨m, hm, by omega⟩⟩ (k4.free D4 ht) ⟨o, ho, upd_same⟩ (D4.new ht) (k4.new (k4.free D4 ht))
        have := (hb y hy).2
        omega
end
end Hd
set_option maxHeartbeats 4000000
/-! Looks at values of any kind. -/
namespace Hd
open PySem PySem.Spec PyProof.Rows L2
theorem pe_gint {X : Cx} {x : Str} {v : Int} {pos : Pos} (hg : Gl X x) (hm : ∃ t, X.mg x = some (.int v t)) (hd : (x == ("__debug__" : Str)) = false := by decide) : PE X (.Name x pos) (tC (.int v)) := by
  obtain ⟨t, hm⟩ := hm
  exact pe_glob hg hm ⟨t, rfl⟩ hd
theorem tyx_tup {K : PySem.W.Frag} {H : Hp} {a : Addr} {xs : List V} (h : SqT K H a xs) : TyX K H (.ref a) (.type "tuple") := by
  rcases h with (h | ⟨o, h⟩) | ⟨o, its, n, hk, hc, _⟩
  · exact .base (.tup h)
  · exact .fTuple h
  · exact .kTuple hk hc
theorem tyx_lst {K : PySem.W.Frag} {H : Hp} {a : Addr} {xs : List V} (h : SqL K H a xs) : TyX K H (.ref a) (.type "list") := by
  rcases h with (h | ⟨o, h⟩) | ⟨o, its, n, hk, hc, _⟩
  · exact .base (.lst h)
  · exact .base (.frz h)
  · exact .kList hk hc
/-- the built-in names, none of them stored by the program -/
structure Tz (mg : Str → Option Value) : Prop where
  int : mg "int" = none
  bool : mg "bool" = none
  list : mg "list" = none
  len : mg "len" = none
  tuple : mg "tuple" = none
  isinstance : mg "isinstance" = none
  all : mg "all" = none
  any : mg "any" = none
  sum : mg "sum" = none
  enumerate : mg "enumerate" = none
  range : mg "range" = none
  sorted : mg "sorted" = none
  set : mg "set" = none
  max : mg "max" = none
  min : mg "min" = none
  str : mg "str" = none
structure Tp (mg : Str → Option Value) : Prop extends Tz mg where
  c_FEWEST_HEAPS : ∃ t, mg "FEWEST_HEAPS" = some (.int 2 t)
  c_MOST_HEAPS : ∃ t, mg "MOST_HEAPS" = some (.int 6 t)
  c_GREATEST : ∃ t, mg "GREATEST" = some (.int (10 ^ 30) t)
/-! ### the mirror -/
def inR (l g v : Int) : Bool := decide (l ≤ v) && decide (v ≤ g)
def isIntD (l g : Int) : PyData → Bool
  | .int i => inR l g i
  | _ => false
def intD : PyData → Int
  | .int i => i
  | _ => 0
def hpsB (ns : List Int) : Bool := (decide (2 ≤ ns.length) && decide (ns.length ≤ 6)) && ((ns.map (inR 0 (10 ^ 30))).all id && decide (0 < ns.sum))
/-- a value that is heaps -/
def hpsD : PyData → Bool
  | .tuple ds => (decide (2 ≤ ds.length) && decide (ds.length ≤ 6)) && ((ds.map (isIntD 0 (10 ^ 30))).all id && decide (0 < (ds.map intD).sum))
  | _ => false
theorem hpsD_dI (ns : List Int) : hpsD (dI ns) = hpsB ns := by
  show ((decide (2 ≤ (ns.map PyData.int).length) && decide ((ns.map PyData.int).length ≤ 6)) && (((ns.map PyData.int).map (isIntD 0 (10 ^ 30))).all id && decide (0 < ((ns.map PyData.int).map intD).sum))) = _
  unfold hpsB
  rw [List.length_map, List.map_map, List.map_map]
  congr 2
  have : (intD ∘ PyData.int) = id := by
    funext x
    rfl
  rw [this, List.map_id]
/-- a value that is a pair of two different places below n -/
def prD (n : Int) : PyData → Bool
  | .tuple [a, b] => isIntD 0 (n - 1) a && (isIntD 0 (n - 1) b && !decide (intD a = intD b))
  | _ => false
/-- a value that is a step that can be made -/
def stD (ns : List Int) : PyData → Bool
  | .tuple [a, b] => prD ns.length (.tuple [a, b]) && can ns (intD a).toNat (intD b).toNat
  | _ => false
theorem isInt_eq {l g : Int} {d : PyData} (h : isIntD l g d = true) : ∃ i, d = .int i ∧ l ≤ i ∧ i ≤ g := by
  cases d <;> first | cases h | skip
  rename_i i
  unfold isIntD inR at h
  simp only [Bool.and_eq_true, decide_eq_true_eq] at h
  exact ⟨i, rfl, h.1, h.2⟩
theorem prD_eq {n : Nat} {d : PyData} (h : prD n d = true) : ∃ i j : Nat, d = dS (i, j) ∧ i < n ∧ j < n ∧ i ≠ j := by
  unfold prD at h
  split at h
  · simp only [Bool.and_eq_true, Bool.not_eq_true', decide_eq_false_iff_not] at h
    obtain ⟨h1, h2, h3⟩ := h
    obtain ⟨a, rfl, a1, a2⟩ := isInt_eq h1
    obtain ⟨b, rfl, b1, b2⟩ := isInt_eq h2
    have z : ¬ a = b := h3
    refine ⟨a.toNat, b.toNat, ?_, by omega, by omega, by omega⟩
    unfold dS
    simp only
    rw [Int.toNat_of_nonneg a1, Int.toNat_of_nonneg b1]
  · cases h
theorem prD_dS {n i j : Nat} : prD n (dS (i, j)) = (decide (i < n) && (decide (j < n) && decide (i ≠ j))) := by
  unfold dS prD isIntD inR intD
  simp only
  by_cases h1 : i < n <;> by_cases h2 : j < n <;> by_cases h3 : i = j <;> simp [h1, h2, h3] <;> omega
theorem stD_dS {ns : List Int} {i j : Nat} : stD ns (dS (i, j)) = ((decide (i < ns.length) && (decide (j < ns.length) && decide (i ≠ j))) && can ns i j) := by
  show (prD ns.length (dS (i, j)) && can ns ((i : Int)).toNat ((j : Int)).toNat) = _
  rw [prD_dS]
  simp only [Int.toNat_natCast]
theorem stD_pr {ns : List Int} {d : PyData} (h : stD ns d = true) : ∃ i j : Nat, d = dS (i, j) ∧ i < ns.length ∧ j < ns.length ∧ i ≠ j ∧ can ns i j = true := by
  unfold stD at h
  split at h
  · rename_i a b
    rw [Bool.and_eq_true] at h
    obtain ⟨i, j, e, h1, h2, h3⟩ := prD_eq h.1
    refine ⟨i, j, e, h1, h2, h3, ?_⟩
    have hc := h.2
    unfold dS at e
    simp only [PyData.tuple.injEq, List.cons.injEq, and_true] at e
    obtain ⟨rfl, rfl⟩ := e
    exact hc
  · cases h
theorem stD_nopr {ns : List Int} {d : PyData} (h : prD ns.length d = false) : stD ns d = false := by
  unfold stD
  split
  · rw [h, Bool.false_and]
  · rfl
theorem getD_at {ns : List Int} {i : Nat} (h : i < ns.length) : (ns.map V.int)[i]? = some (.int (ns.getD i 0)) := by
  rw [List.getElem?_map, List.getElem?_eq_getElem h]
  show some (V.int ns[i]) = _
  congr 2
  rw [List.getD_eq_getElem?_getD, List.getElem?_eq_getElem h]
  rfl
theorem ixN_nat {n i : Nat} (h : i < n) : ixN n (i : Int) = some i := by
  unfold ixN
  rw [if_pos (by omega), if_pos (by omega)]
  simp
theorem hps_len {ns : List Int} (h : hpsB ns = true) : 2 ≤ ns.length ∧ ns.length ≤ 6 := by
  unfold hpsB at h
  simp only [Bool.and_eq_true, decide_eq_true_eq] at h
  exact h.1
/-- all ints: what stands there -/
theorem dpall_isint {K : PySem.W.Frag} {H : Hp} {l g : Int} : ∀ {vs : List V} {ds : List PyData}, DpAll K H vs ds → (ds.map (isIntD l g)).all id = true → vs = (ds.map intD).map V.int ∧ ds = (ds.map intD).map PyData.int
  | _, _, .nil, _ => ⟨rfl, rfl⟩
  | _, _, .cons h t, e => by
    rw [List.map_cons, List.all_cons, Bool.and_eq_true] at e
    obtain ⟨i, rfl, _, _⟩ := isInt_eq e.1
    cases h
    obtain ⟨e1, e2⟩ := dpall_isint t e.2
    exact ⟨by rw [List.map_cons, List.map_cons, ← e1]; rfl, by rw [List.map_cons, List.map_cons, ← e2]; rfl⟩
theorem hpsD_eq {d : PyData} (h : hpsD d = true) : ∃ ns, d = dI ns ∧ hpsB ns = true := by
  unfold hpsD at h
  split at h
  · rename_i ds
    have h0 := h
    simp only [Bool.and_eq_true] at h
    have e : ∀ (xs : List PyData), (xs.map (isIntD 0 (10 ^ 30))).all id = true → xs = (xs.map intD).map PyData.int := by
      intro xs
      induction xs with
      | nil => exact fun _ => rfl
      | cons x xs ih =>
        intro q
        rw [List.map_cons, List.all_cons, Bool.and_eq_true] at q
        obtain ⟨i, rfl, _, _⟩ := isInt_eq q.1
        have := ih q.2
        rw [List.map_cons, List.map_cons, ← this]
        rfl
    refine ⟨ds.map intD, ?_, ?_⟩
    · unfold dI
      rw [← e ds h.2.1]
    · rw [← hpsD_dI]
      unfold dI
      rw [← e ds h.2.1]
      exact h0
  · cases h
/-! ### the promises -/
def spIsInt (K : PySem.W.Frag) : Sp := fun vs H Q _ => ∃ (v : V) (d : PyData) (l g : Int), vs = [v, .int l, .int g] ∧ Dp K H v d ∧ Q (.bl (isIntD l g d)) H
def spIsHeaps (K : PySem.W.Frag) : Sp := fun vs H Q _ => ∃ (v : V) (d : PyData), vs = [v] ∧ Dp K H v d ∧ ∀ H', Same H H' → Q (.bl (hpsD d)) H'
def spChkHeapsD (K : PySem.W.Frag) (C : Addr) : Sp := fun vs H Q E => ∃ (v : V) (d : PyData), vs = [v] ∧ Dp K H v d ∧ (hpsD d = true → ∀ H', Same H H' → Q .non H') ∧ (hpsD d = false → ∀ H', Same H H' → E (.ref C) none H')
def spChkHeaps (K : PySem.W.Frag) : Sp := fun vs H Q _ => ∃ (t : Addr) (ns : List Int), vs = [.ref t] ∧ SqT K H t (ns.map V.int) ∧ hpsB ns = true ∧ ∀ H', Same H H' → Q .non H'
theorem chk_good {K : PySem.W.Frag} {C : Addr} {vs : List V} {H : Hp} {Q : VK} {E : XK} (h : spChkHeaps K vs H Q E) : spChkHeapsD K C vs H Q E0 := by
  obtain ⟨t, ns, rfl, hS, hg, k⟩ := h
  exact ⟨_, _, rfl, dp_I hS, fun _ => k, fun z => by rw [hpsD_dI, hg] at z; cases z⟩
section
variable {P : Program} {w : World} {K : PySem.W.Frag} {mg : Str → Option Value} {base : Heap}
abbrev s_is_integer : Stmt := top 13
theorem sc_is_integer : FnScope ["value", "least", "greatest"] ["value", "least", "greatest"] (defScope s_is_integer) := ⟨rfl, rfl, rfl, by decide +kernel, rfl, by decide +kernel, by decide +kernel⟩
theorem ok_is_integer {f : Addr} {fd : FuncData} (F : Fun K "is_integer" "is_integer" s_is_integer f fd) (T : Tp mg) : FnOk P w K mg base CX0 1 f fd ["value", "least", "greatest"] (spIsInt K) := by
  refine F.ok sc_is_integer (fun vs H Q E h => ?_) (fun cdv A outer s H vs Q E hr h => ?_)
  · obtain ⟨v, d, l, g, rfl, _⟩ := h
    rfl
  · obtain ⟨v, d, l, g, rfl, hd, k⟩ := h
    refine ⟨_, (pss_cons (ps_if (PW.pt (pw_or (pt_val (pe_callB call_isi (by rfl) T.isinstance (by decide +kernel) (pa_cons (pv 0) (pa_cons (pe_bltn (v := .ty "bool") (u := .type "bool") (by rfl) T.bool (by decide +kernel) rfl) pa_nil)))) (pw_or1 (pt_not (pt_val (pe_callB call_isi (by rfl) T.isinstance (by decide +kernel) (pa_cons (pv 0) (pa_cons (pe_bltn (v := .ty "int") (u := .type "int") (by rfl) T.int (by decide +kernel) rfl) pa_nil)))))))) (pss_one (ps_ret pe_bl)) pss_nil)
      (pss_one (ps_ret (pe_chain op_le op_le (pv 1) (pv 0) (pv 2))))), ?_⟩
    cases hd with
    | int v =>
      refine ⟨_, rfl, _, _, _, _, false, rfl, ClsV.ty _, .base (.int _), kit_ty (by decide +kernel), _, rfl, ?_⟩
      refine iteF ⟨_, rfl, _, _, _, _, true, rfl, ClsV.ty _, .base (.int _), kit_ty (by decide +kernel), _, rfl, ?_⟩
      refine iteF ?_
      refine ⟨_, rfl, _, rfl, _, _, rfl, rfl, _, rfl, ?_⟩
      unfold isIntD inR at k
      simp only at k
      cases hd : decide (l ≤ v) with
      | false =>
        rw [hd] at k
        exact iteF k
      | true =>
        rw [hd] at k
        exact iteT ⟨_, rfl, _, _, rfl, rfl, k⟩
    | bl b =>
      refine ⟨_, rfl, _, _, _, _, true, rfl, ClsV.ty _, .base (.bl _), kit_ty (by decide +kernel), _, rfl, ?_⟩
      exact iteT k
    | non =>
      refine ⟨_, rfl, _, _, _, _, false, rfl, ClsV.ty _, .base .non, kit_ty (by decide +kernel), _, rfl, ?_⟩
      refine iteF ⟨_, rfl, _, _, _, _, false, rfl, ClsV.ty _, .base .non, kit_ty (by decide +kernel), _, rfl, ?_⟩
      exact iteT k
    | str x =>
      refine ⟨_, rfl, _, _, _, _, false, rfl, ClsV.ty _, .base (.str _), kit_ty (by decide +kernel), _, rfl, ?_⟩
      refine iteF ⟨_, rfl, _, _, _, _, false, rfl, ClsV.ty _, .base (.str _), kit_ty (by decide +kernel), _, rfl, ?_⟩
      exact iteT k
    | lst hS _ =>
      refine ⟨_, rfl, _, _, _, _, false, rfl, ClsV.ty _, tyx_lst hS, kit_ty (by decide +kernel), _, rfl, ?_⟩
      refine iteF ⟨_, rfl, _, _, _, _, false, rfl, ClsV.ty _, tyx_lst hS, kit_ty (by decide +kernel), _, rfl, ?_⟩
      exact iteT k
    | tup hS _ =>
      refine ⟨_, rfl, _, _, _, _, false, rfl, ClsV.ty _, tyx_tup hS, kit_ty (by decide +kernel), _, rfl, ?_⟩
      refine iteF ⟨_, rfl, _, _, _, _, false, rfl, ClsV.ty _, tyx_tup hS, kit_ty (by decide +kernel), _, rfl, ?_⟩
      exact iteT k
abbrev s_is_heaps : Stmt := top 14
theorem sc_is_heaps : FnScope ["value", "heap"] ["value"] (defScope s_is_heaps) := ⟨rfl, rfl, rfl, by decide +kernel, rfl, by decide +kernel, by decide +kernel⟩
theorem ok_is_heaps {f : Addr} {fd : FuncData} (F : Fun K "is_heaps" "is_heaps" s_is_heaps f fd) (T : Tp mg) (C_is_integer : Cal P w K mg base CX0 1 "is_integer" ["value", "least", "greatest"] (spIsInt K)) : FnOk P w K mg base CX0 2 f fd ["value"] (spIsHeaps K) := by
  refine F.ok sc_is_heaps (fun vs H Q E h => ?_) (fun cdv A outer s H vs Q E hr h => ?_)
  · obtain ⟨v, d, rfl, _⟩ := h
    rfl
  · obtain ⟨v, d, rfl, hd, k⟩ := h
    refine ⟨_, (pss_cons (ps_if (PW.pt (pw_or (pt_not (pt_val (pe_callB call_isi (by rfl) T.isinstance (by decide +kernel) (pa_cons (pv 0) (pa_cons (pe_bltn (v := .ty "tuple") (u := .type "tuple") (by rfl) T.tuple (by decide +kernel) rfl) pa_nil))))) (pw_or1 (pt_not (pt_chain op_le op_le (pe_gint rfl T.c_FEWEST_HEAPS) (pe_callB call_len_seq (by rfl) T.len PySem.boot_len (pa_cons (pv 0) pa_nil)) (pe_gint rfl T.c_MOST_HEAPS)))))) (pss_one (ps_ret pe_bl)) pss_nil)
      (pss_one (ps_ret (pe_and (pe_callB (cr_all rfl) (by rfl) T.all (by decide +kernel) (pa_cons (pe_lc (own := [("heap", 1)]) (g := gName 1) (by rfl) sc_is_heaps.nd (pi_tup (pv 0)) (blkOk_by (own := [("heap", 1)]) (N := ["value", "heap"]) (sc := defScope s_is_heaps) (by decide +kernel)) (fun _ _ _ _ _ => pg_name (i := 1) sc_is_heaps.nd rfl (Or.inl rfl)) (fun _ _ _ _ _ => pts_nil) (fun _ _ _ _ _ => (pe_cal C_is_integer hr rfl pass0 (pa_cons (pv 1) (pa_cons pe_int (pa_cons (pe_gint rfl T.c_GREATEST) pa_nil)))))) pa_nil)) (pe_one (pe_cmpR op_gt (pe_callB (cr_sumT rfl) (by rfl) T.sum (by decide +kernel) (pa_cons (pv 0) pa_nil)) pe_int (nomark _))))))), ?_⟩
    cases hd with
    | int v => exact ⟨_, rfl, _, _, _, _, false, rfl, ClsV.ty _, .base (.int _), kit_ty (by decide +kernel), _, rfl, iteT (k H (Same.refl _))⟩
    | bl b => exact ⟨_, rfl, _, _, _, _, false, rfl, ClsV.ty _, .base (.bl _), kit_ty (by decide +kernel), _, rfl, iteT (k H (Same.refl _))⟩
    | non => exact ⟨_, rfl, _, _, _, _, false, rfl, ClsV.ty _, .base .non, kit_ty (by decide +kernel), _, rfl, iteT (k H (Same.refl _))⟩
    | str x => exact ⟨_, rfl, _, _, _, _, false, rfl, ClsV.ty _, .base (.str _), kit_ty (by decide +kernel), _, rfl, iteT (k H (Same.refl _))⟩
    | lst hS _ => exact ⟨_, rfl, _, _, _, _, false, rfl, ClsV.ty _, tyx_lst hS, kit_ty (by decide +kernel), _, rfl, iteT (k H (Same.refl _))⟩
    | @tup t xs ds hS hA =>
    refine ⟨_, rfl, _, _, _, _, true, rfl, ClsV.ty _, tyx_tup hS, kit_ty (by decide +kernel), _, rfl, ?_⟩
    refine iteF ?_
    refine ⟨_, rfl, t, _, rfl, .inr hS, _, _, rfl, rfl, _, rfl, ?_⟩
    have hxl := dpall_len hA
    unfold hpsD at k
    simp only at k
    rw [← hxl] at k
    cases h2 : decide (2 ≤ xs.length) with
    | false =>
      have z : decide ((2 : Int) ≤ (xs.length : Int)) = false := decide_eq_false fun z => (of_decide_eq_false h2) (by omega)
      rw [z]
      refine iteF ⟨_, rfl, iteT ?_⟩
      rw [h2] at k
      exact k H (Same.refl _)
    | true =>
      have z : decide ((2 : Int) ≤ (xs.length : Int)) = true := decide_eq_true (by have := of_decide_eq_true h2; omega)
      rw [z]
      refine iteT ⟨_, _, rfl, rfl, _, rfl, ?_⟩
      cases h6 : decide (xs.length ≤ 6) with
      | false =>
        have z : decide ((xs.length : Int) ≤ 6) = false := decide_eq_false fun z => (of_decide_eq_false h6) (by omega)
        rw [z]
        refine iteT ?_
        rw [h2, h6] at k
        exact k H (Same.refl _)
      | true =>
        have z : decide ((xs.length : Int) ≤ 6) = true := decide_eq_true (by have := of_decide_eq_true h6; omega)
        rw [z]
        refine iteF ?_
        rw [h2, h6] at k
        have hx6 := of_decide_eq_true h6
        refine ⟨_, rfl, t, rfl, ⟨_, hS⟩, fun D hD => lc_tup (K := K) (a := t) (xs := xs) (fun i H1 => H1 D = some (.lst (((ds.take i).map (isIntD 0 (10 ^ 30))).map V.bl)) ∧ Same H H1) ⟨upd_same, Same.new hD⟩ (fun i H1 _ q => Same.tup q.2 hS) ?_ ?_⟩
        · rintro i x H1 hi ⟨hL, s1⟩
          obtain ⟨dx, hdx, hx⟩ := dpall_get hA hi
          refine ⟨rfl, _, rfl, x, dx, 0, 10 ^ 30, rfl, dp_same s1 hx, _, hL, ?_, ?_⟩
          · rw [List.length_map, List.length_map, List.length_take, sizeLine_eq]
            omega
          · refine ⟨?_, same_upd s1 hD⟩
            rw [upd_same, List.take_add_one, hdx]
            simp
        · rintro H1 ⟨hL, s1⟩
          rw [hxl, List.take_length] at hL
          refine ⟨D, _, rfl, SqL.of hL, _, rfl, ?_⟩
          cases ha : (ds.map (isIntD 0 (10 ^ 30))).all id with
          | false =>
            rw [ha] at k
            exact iteF (k _ s1)
          | true =>
            rw [ha] at k
            obtain ⟨e1, _⟩ := dpall_isint hA ha
            rw [e1] at hS
            exact iteT ⟨_, rfl, t, _, rfl, Same.tup s1 hS, _, _, rfl, rfl, k _ s1⟩
abbrev s_check_heaps : Stmt := top 16
theorem sc_check_heaps : FnScope ["heaps"] ["heaps"] (defScope s_check_heaps) := ⟨rfl, rfl, rfl, by decide +kernel, rfl, by decide +kernel, by decide +kernel⟩
theorem ok_check_heaps {f C : Addr} {fd : FuncData} (F : Fun K "check_heaps" "check_heaps" s_check_heaps f fd) (T : Tp mg) (B : NilX P K mg "BadHeaps" C) (C_is_heaps : Cal P w K mg base CX0 2 "is_heaps" ["value"] (spIsHeaps K)) : FnOk P w K mg base (L2.CX P w) 3 f fd ["heaps"] (spChkHeapsD K C) := by
  refine F.okX sc_check_heaps (fun vs H Q E h => ?_) (fun cdv A outer s H vs Q E hr h => ?_)
  · obtain ⟨v, d, rfl, _⟩ := h
    rfl
  · obtain ⟨v, d, rfl, hd, k1, k2⟩ := h
    refine ⟨_, (pss_one (ps_if (pt_not (pt_val (pe_cal C_is_heaps hr rfl pass0 (pa_cons (pv 0) pa_nil)))) (pss_one (ps_raise rfl (takes_of rfl rfl rfl rfl) (pmk_nil B (hr.mono (by decide : 1 ≤ 2)) rfl))) pss_nil)), ?_⟩
    refine ⟨_, rfl, v, d, rfl, hd, fun H1 s1 => ⟨_, rfl, ?_⟩⟩
    cases hg : hpsD d with
    | true => exact iteF (k1 hg _ s1)
    | false => exact iteT (k2 hg _ s1)
end
end Hd
set_option maxHeartbeats 4000000
/-! Steps and what they do. -/
namespace Hd
open PySem PySem.Spec PyProof.Rows L2
/-- a step's tuple at its address, its two numbers -/
abbrev Srow := Addr × Nat × Nat
def StAt (K : PySem.W.Frag) (H : Hp) (n : Nat) (p : Srow) : Prop := SqT K H p.1 [.int (p.2.1 : Int), .int (p.2.2 : Int)] ∧ p.2.1 < n ∧ p.2.2 < n ∧ p.2.1 ≠ p.2.2
/-- a list at l of steps' tuples -/
structure PrL (K : PySem.W.Frag) (H : Hp) (l : Addr) (n : Nat) (ps : List Srow) : Prop where
  ls : H l = some (.lst (ps.map fun p => V.ref p.1))
  st : ∀ p ∈ ps, StAt K H n p
theorem StAt.same {K : PySem.W.Frag} {H H' : Hp} {n : Nat} {p : Srow} (e : Same H H') (h : StAt K H n p) : StAt K H' n p := ⟨Same.tup e h.1, h.2⟩
theorem PrL.same {K : PySem.W.Frag} {H H' : Hp} {t : Addr} {n : Nat} {ps : List Srow} (e : Same H H') (h : PrL K H t n ps) : PrL K H' t n ps := ⟨e _ _ h.ls, fun p hp => (h.st p hp).same e⟩
theorem PrL.stp {K : PySem.W.Frag} {H : Hp} {t : Addr} {n : Nat} {ps : List Srow} (h : PrL K H t n ps) : Stp n (ps.map (·.2)) := fun p hp => by
  obtain ⟨z, hz, rfl⟩ := List.mem_map.mp hp
  exact (h.st z hz).2
/-- a tuple stays where a list is written -/
theorem tup_at {K : PySem.W.Frag} {H : Hp} {l a : Addr} {xs ys : List V} {o : HO} (hl : H l = some (.lst ys)) (h : SqT K H a xs) : SqT K (upd H l o) a xs := by
  rcases h with (h | ⟨u, h⟩) | h
  · exact .inl (.inl (by rw [upd_ne (ne_of h hl (by intro z; cases z))]; exact h))
  · exact .inl (.inr ⟨u, by rw [upd_ne (ne_of h hl (by intro z; cases z))]; exact h⟩)
  · exact .inr h
theorem StAt.at_ {K : PySem.W.Frag} {H : Hp} {l : Addr} {ys : List V} {o : HO} {n : Nat} {p : Srow} (hl : H l = some (.lst ys)) (h : StAt K H n p) : StAt K (upd H l o) n p := ⟨tup_at hl h.1, h.2⟩
/-- .. more of them -/
theorem PrL.more {K : PySem.W.Frag} {H : Hp} {l : Addr} {n : Nat} {ps qs : List Srow} (h : PrL K H l n ps) (hq : ∀ p ∈ qs, StAt K H n p) : PrL K (upd H l (.lst (ps.map (fun p => V.ref p.1) ++ qs.map fun p => V.ref p.1))) l n (ps ++ qs) :=
  ⟨by rw [upd_same, List.map_append], fun p hp => (List.mem_append.mp hp).elim (fun z => (h.st p z).at_ h.ls) fun z => (hq p z).at_ h.ls⟩
def spShifted (K : PySem.W.Frag) : Sp := fun vs H Q _ => ∃ (t u : Addr) (ns : List Int) (i j : Nat) (m : Int), vs = [.ref t, .ref u, .int m] ∧ SqT K H t (ns.map V.int) ∧ SqT K H u [.int (i : Int), .int (j : Int)] ∧ i < ns.length ∧ j < ns.length ∧ i ≠ j ∧
  ∀ (p : Addr) (H' : Hp), Same H H' → H p = none → H' p = some (.tup ((shf ns i j m).map V.int)) → Q (.ref p) H'
def spBehind (K : PySem.W.Frag) : Sp := fun vs H Q _ => ∃ (t u : Addr) (ns : List Int) (i j : Nat), vs = [.ref t, .ref u] ∧ SqT K H t (ns.map V.int) ∧ SqT K H u [.int (i : Int), .int (j : Int)] ∧ i < ns.length ∧ j < ns.length ∧ i ≠ j ∧
  ∀ (p : Addr) (H' : Hp), Same H H' → H p = none → H' p = some (.tup ((mv ns i j).map V.int)) → Q (.ref p) H'
def spShiftedZ (K : PySem.W.Frag) : Sp := fun vs H Q _ => ∃ (t u : Addr) (ns : List Int) (i j : Nat) (m : Int), vs = [.ref t, .ref u, .int m] ∧ SqT K H t (ns.map V.int) ∧ SqT K H u [.int (i : Int), .int (j : Int)] ∧ i < ns.length ∧ j < ns.length ∧ i ≠ j ∧
  ∀ (p : Addr) (H' : Hp), Same H H' → H p = none → TupZ H' p ((shf ns i j m).map V.int) → Q (.ref p) H'
def spBehindZ (K : PySem.W.Frag) : Sp := fun vs H Q _ => ∃ (t u : Addr) (ns : List Int) (i j : Nat), vs = [.ref t, .ref u] ∧ SqT K H t (ns.map V.int) ∧ SqT K H u [.int (i : Int), .int (j : Int)] ∧ i < ns.length ∧ j < ns.length ∧ i ≠ j ∧
  ∀ (p : Addr) (H' : Hp), Same H H' → H p = none → TupZ H' p ((mv ns i j).map V.int) → Q (.ref p) H'
theorem thaw_shifted {K : PySem.W.Frag} {vs : List V} {H : Hp} {Q : VK} {E : XK} (h : spShifted K vs H Q E) : spShiftedZ K vs H (fun v H' => ∃ a o xs, v = .ref a ∧ H a = none ∧ H' a = some (.frz o (.tup xs)) ∧ Q v (upd H' a (.tup xs))) E := by
  obtain ⟨t, u, ns, i, j, m, rfl, hS, hU, hi, hj, hij, k⟩ := h
  exact ⟨t, u, ns, i, j, m, rfl, hS, hU, hi, hj, hij, fun p H' s hp ⟨o, _, hz⟩ => ⟨p, o, _, rfl, hp, hz, k p _ (same_thaw s hp) hp upd_same⟩⟩
theorem thaw_behind {K : PySem.W.Frag} {vs : List V} {H : Hp} {Q : VK} {E : XK} (h : spBehind K vs H Q E) : spBehindZ K vs H (fun v H' => ∃ a o xs, v = .ref a ∧ H a = none ∧ H' a = some (.frz o (.tup xs)) ∧ Q v (upd H' a (.tup xs))) E := by
  obtain ⟨t, u, ns, i, j, rfl, hS, hU, hi, hj, hij, k⟩ := h
  exact ⟨t, u, ns, i, j, rfl, hS, hU, hi, hj, hij, fun p H' s hp ⟨o, _, hz⟩ => ⟨p, o, _, rfl, hp, hz, k p _ (same_thaw s hp) hp upd_same⟩⟩
def spBehindAll (K : PySem.W.Frag) : Sp := fun vs H Q _ => ∃ (t u : Addr) (ns m : List Int) (ps : List Srow), vs = [.ref t, .ref u] ∧ SqT K H t (ns.map V.int) ∧ PrL K H u ns.length ps ∧ run ns (ps.map (·.2)) = some m ∧
  ∀ (p : Addr) (H' : Hp), Same H H' → SqT K H' p (m.map V.int) → Q (.ref p) H'
def spCan (K : PySem.W.Frag) : Sp := fun vs H Q _ => ∃ (t u : Addr) (ns : List Int) (i j : Nat), vs = [.ref t, .ref u] ∧ SqT K H t (ns.map V.int) ∧ SqT K H u [.int (i : Int), .int (j : Int)] ∧ i < ns.length ∧ j < ns.length ∧ Q (.bl (can ns i j)) H
def spIsPair (K : PySem.W.Frag) : Sp := fun vs H Q _ => ∃ (v : V) (d : PyData) (n : Int), vs = [.int n, v] ∧ Dp K H v d ∧ Q (.bl (prD n d)) H
def spChkStep (K : PySem.W.Frag) (C : Addr) : Sp := fun vs H Q E => ∃ (t : Addr) (v : V) (d : PyData) (ns : List Int), vs = [.ref t, v] ∧ SqT K H t (ns.map V.int) ∧ Dp K H v d ∧ (stD ns d = true → Q .non H) ∧ (stD ns d = false → E (.ref C) none H)
def spPairs (K : PySem.W.Frag) : Sp := fun vs H Q _ => ∃ n : Nat, vs = [.int (n : Int)] ∧ n ≤ 6 ∧ ∀ (l : Addr) (qs : List (Addr × Nat × Nat)) (H' : Hp), Same H H' → H l = none → PrL K H' l n qs → qs.map (·.2) = prs n → Q (.ref l) H'
def spSteps (K : PySem.W.Frag) : Sp := fun vs H Q _ => ∃ (t : Addr) (ns : List Int), vs = [.ref t] ∧ SqT K H t (ns.map V.int) ∧ ns.length ≤ 6 ∧ ∀ (l : Addr) (qs : List (Addr × Nat × Nat)) (H' : Hp), Same H H' → H l = none → PrL K H' l ns.length qs → qs.map (·.2) = due ns → Q (.ref l) H'
/-- a list at l of heaps, each a tuple -/
abbrev Hrow := Addr × List Int
structure HpL (K : PySem.W.Frag) (H : Hp) (l : Addr) (hs : List Hrow) : Prop where
  ls : H l = some (.lst (hs.map fun p => V.ref p.1))
  st : ∀ p ∈ hs, SqT K H p.1 (p.2.map V.int)
theorem HpL.same {K : PySem.W.Frag} {H H' : Hp} {t : Addr} {hs : List Hrow} (e : Same H H') (h : HpL K H t hs) : HpL K H' t hs := ⟨e _ _ h.ls, fun p hp => Same.tup e (h.st p hp)⟩
def spAllBehind (K : PySem.W.Frag) : Sp := fun vs H Q _ => ∃ (t : Addr) (ns : List Int), vs = [.ref t] ∧ SqT K H t (ns.map V.int) ∧ ns.length ≤ 6 ∧ ∀ (l : Addr) (hs : List Hrow) (H' : Hp), Same H H' → H l = none → HpL K H' l hs → hs.map (·.2) = (due ns).map (fun q => mv ns q.1 q.2) → (∀ p ∈ hs, H p.1 = none ∧ H' p.1 = some (.tup (p.2.map V.int))) → Q (.ref l) H'
theorem dec_int (a b : Int) : decide (V.int a = V.int b) = decide (a = b) := by
  by_cases z : a = b
  · subst z
    rw [decide_eq_true rfl, decide_eq_true rfl]
  · rw [decide_eq_false z, decide_eq_false fun q => z (V.int.inj q)]
/-- a loop over range(n), whatever its body -/
theorem over_range {n : Nat} {H0 : Hp} {Qd : Hp → Prop} {body : V → Hp → (Hp → Prop) → Prop} (Pv : Nat → Hp → Prop) (h0 : Pv 0 H0) (hs : ∀ i H, i < n → Pv i H → body (.int (0 + (i : Int))) H (Pv (i + 1))) (hd : ∀ H, Pv n H → Qd H) :
    ∃ W : Nat → Nat → Hp → Prop, (∃ m, W 0 m H0) ∧ ∀ i m H, W i m H → ((Itr 0 n).stop i H ∧ Qd H) ∨ ((Itr 0 n).go i H ∧ ∃ Nx : Hp → Prop, (∀ H', Nx H' → ∃ m', m' < m ∧ W (i + 1) m' H') ∧ ∀ x H', (Itr 0 n).yld i H x H' → body x H' Nx) := by
  refine ⟨fun i m H => m + i = n ∧ Pv i H, ⟨n, rfl, h0⟩, fun i m H ⟨e, p⟩ => ?_⟩
  by_cases lt : i < n
  · refine .inr ⟨lt, Pv (i + 1), fun H' p' => ⟨m - 1, by omega, by omega, p'⟩, fun x H' y => ?_⟩
    rw [y.1, y.2]
    exact hs i H lt p
  · have e2 : i = n := by omega
    rw [e2] at p ⊢
    exact .inl ⟨Nat.le_refl n, hd H p⟩
def dbl (x : Int) : Bool := decide (0 < x) && decide (x % 2 = 0)
def erl (ns : List Int) (i j : Nat) : List Int := shf ns i j (-(ns.getD j 0 / 2))
def spDbl : Sp := fun vs H Q _ => ∃ x : Int, vs = [.int x] ∧ Q (.bl (dbl x)) H
def spErl (K : PySem.W.Frag) : Sp := fun vs H Q _ => ∃ (t u : Addr) (ns : List Int) (i j : Nat), vs = [.ref t, .ref u] ∧ SqT K H t (ns.map V.int) ∧ SqT K H u [.int (i : Int), .int (j : Int)] ∧ i < ns.length ∧ j < ns.length ∧ i ≠ j ∧
  ∀ (p : Addr) (H' : Hp), Same H H' → H p = none → H' p = some (.tup ((erl ns i j).map V.int)) → Q (.ref p) H'
section
variable {P : Program} {w : World} {K : PySem.W.Frag} {mg : Str → Option Value} {base : Heap}
abbrev s_is_pair_of : Stmt := top 15
theorem sc_is_pair_of : FnScope ["many", "value", "one", "other"] ["many", "value"] (defScope s_is_pair_of) := ⟨rfl, rfl, rfl, by decide +kernel, rfl, by decide +kernel, by decide +kernel⟩
theorem ok_is_pair_of {f : Addr} {fd : FuncData} (F : Fun K "is_pair_of" "is_pair_of" s_is_pair_of f fd) (T : Tp mg) (C_is_integer : Cal P w K mg base CX0 1 "is_integer" ["value", "least", "greatest"] (spIsInt K)) : FnOk P w K mg base CX0 2 f fd ["many", "value"] (spIsPair K) := by
  refine F.ok sc_is_pair_of (fun vs H Q E h => ?_) (fun cdv A outer s H vs Q E hr h => ?_)
  · obtain ⟨v, d, n, rfl, _⟩ := h
    rfl
  · obtain ⟨v, d, n, rfl, hd, k⟩ := h
    refine ⟨_, (pss_cons (ps_if (PW.pt (pw_or (pt_not (pt_val (pe_callB call_isi (by rfl) T.isinstance (by decide +kernel) (pa_cons (pv 1) (pa_cons (pe_bltn (v := .ty "tuple") (u := .type "tuple") (by rfl) T.tuple (by decide +kernel) rfl) pa_nil))))) (pw_or1 (pt_cmpR op_ne (pe_callB call_len_seq (by rfl) T.len PySem.boot_len (pa_cons (pv 1) pa_nil)) pe_int (nomark _))))) (pss_one (ps_ret pe_bl)) pss_nil)
      (pss_cons (ps_asg (pv 1) (pg_tup rfl (pgs_cons (pg_name (i := 2) sc_is_pair_of.nd rfl (Or.inl rfl)) (pgs_cons (pg_name (i := 3) sc_is_pair_of.nd rfl (Or.inl rfl)) pgs_nil))))
      (pss_one (ps_ret (pe_and (pe_cal C_is_integer hr rfl pass0 (pa_cons (pv 2) (pa_cons pe_int (pa_cons (pe_op op_sub (pv 0) pe_int) pa_nil)))) (pe_and (pe_cal C_is_integer hr rfl pass0 (pa_cons (pv 3) (pa_cons pe_int (pa_cons (pe_op op_sub (pv 0) pe_int) pa_nil)))) (pe_one (pe_cmpR op_ne (pv 2) (pv 3) (nomark _))))))))), ?_⟩
    cases hd with
    | int v => exact ⟨_, rfl, _, _, _, _, false, rfl, ClsV.ty _, .base (.int _), kit_ty (by decide +kernel), _, rfl, iteT k⟩
    | bl b => exact ⟨_, rfl, _, _, _, _, false, rfl, ClsV.ty _, .base (.bl _), kit_ty (by decide +kernel), _, rfl, iteT k⟩
    | non => exact ⟨_, rfl, _, _, _, _, false, rfl, ClsV.ty _, .base .non, kit_ty (by decide +kernel), _, rfl, iteT k⟩
    | str x => exact ⟨_, rfl, _, _, _, _, false, rfl, ClsV.ty _, .base (.str _), kit_ty (by decide +kernel), _, rfl, iteT k⟩
    | lst hS _ => exact ⟨_, rfl, _, _, _, _, false, rfl, ClsV.ty _, tyx_lst hS, kit_ty (by decide +kernel), _, rfl, iteT k⟩
    | @tup t xs ds hS hA =>
    refine ⟨_, rfl, _, _, _, _, true, rfl, ClsV.ty _, tyx_tup hS, kit_ty (by decide +kernel), _, rfl, ?_⟩
    refine iteF ?_
    have hxl := dpall_len hA
    by_cases h2 : xs.length = 2
    · obtain ⟨x, y, rfl⟩ : ∃ x y, xs = [x, y] := by
        match xs, h2 with
        | [x, y], _ => exact ⟨x, y, rfl⟩
      cases hA with
      | @cons _ _ a _ ha hB =>
      cases hB with
      | @cons _ _ b _ hb hC =>
      cases hC
      refine ⟨_, rfl, t, _, rfl, .inr hS, rfl, _, rfl, iteNS rfl ?_⟩
      refine ⟨_, rfl, t, _, rfl, hS, rfl, _, _, rfl, _, _, rfl, rfl, ?_⟩
      refine ⟨_, rfl, _, rfl, _, _, rfl, rfl, _, _, _, _, rfl, ha, _, rfl, ?_⟩
      unfold prD at k
      simp only at k
      cases ha1 : isIntD 0 (n - 1) a with
      | false =>
        rw [ha1] at k
        exact iteF k
      | true =>
        rw [ha1] at k
        obtain ⟨i, rfl, _, _⟩ := isInt_eq ha1
        cases ha
        refine iteT ⟨_, rfl, _, rfl, _, _, rfl, rfl, _, _, _, _, rfl, hb, _, rfl, ?_⟩
        cases hb1 : isIntD 0 (n - 1) b with
        | false =>
          rw [hb1] at k
          exact iteF k
        | true =>
          rw [hb1] at k
          obtain ⟨j, rfl, _, _⟩ := isInt_eq hb1
          cases hb
          refine iteT ⟨_, rfl, _, rfl, rfl, ?_⟩
          rw [dec_int]
          exact k
    · have e0 : prD n (.tuple ds) = false := by
        unfold prD
        split
        · rename_i a b e
          cases e
          exact absurd hxl h2
        · rfl
      rw [e0] at k
      refine ⟨_, rfl, t, _, rfl, .inr hS, rfl, _, rfl, ?_⟩
      rw [decide_eq_false (show ¬ V.int (xs.length : Int) = V.int 2 from fun z => h2 (by have := V.int.inj z; omega))]
      exact iteT k
abbrev s_can_be_made : Stmt := top 6
theorem sc_can_be_made : FnScope ["heaps", "step", "one", "other"] ["heaps", "step"] (defScope s_can_be_made) := ⟨rfl, rfl, rfl, by decide +kernel, rfl, by decide +kernel, by decide +kernel⟩
theorem ok_can_be_made {f : Addr} {fd : FuncData} (F : Fun K "can_be_made" "can_be_made" s_can_be_made f fd) : FnOk P w K mg base CX0 1 f fd ["heaps", "step"] (spCan K) := by
  refine F.ok sc_can_be_made (fun vs H Q E h => ?_) (fun cdv A outer s H vs Q E hr h => ?_)
  · obtain ⟨t, u, ns, i, j, rfl, _⟩ := h
    rfl
  · obtain ⟨t, u, ns, i, j, rfl, hS, hU, hi, hj, k⟩ := h
    refine ⟨_, (pss_cons (ps_asg (pv 1) (pg_tup rfl (pgs_cons (pg_name (i := 2) sc_can_be_made.nd rfl (Or.inl rfl)) (pgs_cons (pg_name (i := 3) sc_can_be_made.nd rfl (Or.inl rfl)) pgs_nil))))
      (pss_one (ps_ret (pe_chain op_lt op_le pe_int (pe_ix ix_tup (pv 0) (pv 3) (fun _ _ => rfl)) (pe_ix ix_tup (pv 0) (pv 2) (fun _ _ => rfl)))))), ?_⟩
    refine ⟨_, rfl, u, _, rfl, hU, rfl, _, _, rfl, _, _, rfl, rfl, ?_⟩
    refine ⟨_, rfl, _, rfl, t, _, _, _, rfl, rfl, hS, at_of rfl (getD_at hj), _, _, rfl, rfl, _, rfl, ?_⟩
    unfold can at k
    cases hd : decide (0 < ns.getD j 0) with
    | false =>
      rw [hd] at k
      exact iteF k
    | true =>
      rw [hd] at k
      exact iteT ⟨_, rfl, _, rfl, t, _, _, _, rfl, rfl, hS, at_of rfl (getD_at hi), _, _, rfl, rfl, k⟩
abbrev s_shifted : Stmt := top 7
theorem sc_shifted : FnScope ["heaps", "step", "many", "one", "other", "stand"] ["heaps", "step", "many"] (defScope s_shifted) := ⟨rfl, rfl, rfl, by decide +kernel, rfl, by decide +kernel, by decide +kernel⟩
theorem ok_shifted {f : Addr} {fd : FuncData} (F : Fun K "shifted" "shifted" s_shifted f fd) (T : Tp mg) : FnOk P w K mg base CX0 1 f fd ["heaps", "step", "many"] (spShiftedZ K) := by
  refine F.ok sc_shifted (fun vs H Q E h => ?_) (fun cdv A outer s H vs Q E hr h => ?_)
  · obtain ⟨t, u, ns, i, j, m, rfl, _⟩ := h
    rfl
  · obtain ⟨t, u, ns, i, j, m, rfl, hS, hU, hi, hj, hij, k⟩ := h
    refine ⟨_, (pss_cons (ps_asg (pv 1) (pg_tup rfl (pgs_cons (pg_name (i := 3) sc_shifted.nd rfl (Or.inl rfl)) (pgs_cons (pg_name (i := 4) sc_shifted.nd rfl (Or.inl rfl)) pgs_nil))))
      (pss_cons (ps_set (i := 5) sc_shifted.nd rfl (Or.inl rfl) (pe_callTy call_list_of (by rfl) T.list (by decide +kernel) (pa_cons (pv 0) pa_nil)))
      (pss_cons (ps_augS (pv 5) (pv 3) pget_list (pv 2) ip_sub set_list)
      (pss_cons (ps_augS (pv 5) (pv 4) pget_list (pv 2) ip_add set_list)
      (pss_one (ps_ret (pe_callTy call_tupleZ (by rfl) T.tuple (by decide +kernel) (pa_cons (pv 5) pa_nil)))))))), ?_⟩
    refine ⟨_, rfl, u, _, rfl, hU, rfl, _, _, rfl, _, _, rfl, rfl, ?_⟩
    refine ⟨_, rfl, t, _, rfl, .inr hS, fun l hl => ?_⟩
    refine ⟨_, rfl, _, rfl, l, _, _, _, rfl, rfl, SqL.of upd_same, by omega, (by rw [Int.toNat_natCast]; exact getD_at hi), _, rfl, _, _, rfl, rfl, l, _, _, i, rfl, rfl, upd_same, (by rw [List.length_map]; exact ixN_nat hi), ?_⟩
    rw [upd_upd]
    refine ⟨_, rfl, _, rfl, l, _, _, _, rfl, rfl, SqL.of upd_same, by omega, (by rw [Int.toNat_natCast, List.getElem?_set_ne hij]; exact getD_at hj), _, rfl, _, _, rfl, rfl, l, _, _, j, rfl, rfl, upd_same, (by rw [List.length_set, List.length_map]; exact ixN_nat hj), ?_⟩
    rw [upd_upd]
    refine ⟨_, rfl, l, _, rfl, SqL.of upd_same, fun p o hp ho => ?_⟩
    have hpl : p ≠ l := fun e => by
      rw [e, upd_same] at hp
      cases hp
    have hp0 : H p = none := by
      rw [upd_ne hpl] at hp
      exact hp
    refine k p _ (same_upd (Same.new hl) hp0) hp0 ⟨o, ho, ?_⟩
    rw [upd_same]
    unfold shf
    rw [List.map_set, List.map_set]
abbrev s_behind : Stmt := top 8
theorem sc_behind : FnScope ["heaps", "step"] ["heaps", "step"] (defScope s_behind) := ⟨rfl, rfl, rfl, by decide +kernel, rfl, by decide +kernel, by decide +kernel⟩
theorem ok_behind {f : Addr} {fd : FuncData} (F : Fun K "behind" "behind" s_behind f fd) (C_shifted : Cal P w K mg base CX0 1 "shifted" ["heaps", "step", "many"] (spShiftedZ K)) : FnOk P w K mg base CX0 2 f fd ["heaps", "step"] (spBehindZ K) := by
  refine F.ok sc_behind (fun vs H Q E h => ?_) (fun cdv A outer s H vs Q E hr h => ?_)
  · obtain ⟨t, u, ns, i, j, rfl, _⟩ := h
    rfl
  · obtain ⟨t, u, ns, i, j, rfl, hS, hU, hi, hj, hij, k⟩ := h
    refine ⟨_, (pss_one (ps_ret (pe_cal C_shifted hr rfl pass0 (pa_cons (pv 0) (pa_cons (pv 1) (pa_cons (pe_ix ix_tup (pv 0) (pe_ix ix_tup (pv 1) pe_int (fun _ _ => rfl)) (fun _ _ => rfl)) pa_nil)))))), ?_⟩
    exact ⟨_, rfl, _, rfl, _, rfl, _, rfl, u, _, _, _, rfl, rfl, hU, rfl, t, _, _, _, rfl, rfl, hS, at_of rfl (getD_at hj), t, u, ns, i, j, _, rfl, hS, hU, hi, hj, hij, k⟩
abbrev s_check_step : Stmt := top 17
theorem sc_check_step : FnScope ["heaps", "step"] ["heaps", "step"] (defScope s_check_step) := ⟨rfl, rfl, rfl, by decide +kernel, rfl, by decide +kernel, by decide +kernel⟩
theorem ok_check_step {f C : Addr} {fd : FuncData} (F : Fun K "check_step" "check_step" s_check_step f fd) (T : Tp mg) (B : NilX P K mg "BadStep" C) (C_is_pair_of : Cal P w K mg base CX0 2 "is_pair_of" ["many", "value"] (spIsPair K))
    (C_can_be_made : Cal P w K mg base CX0 1 "can_be_made" ["heaps", "step"] (spCan K)) : FnOk P w K mg base (L2.CX P w) 3 f fd ["heaps", "step"] (spChkStep K C) := by
  refine F.okX sc_check_step (fun vs H Q E h => ?_) (fun cdv A outer s H vs Q E hr h => ?_)
  · obtain ⟨t, v, d, ns, rfl, _⟩ := h
    rfl
  · obtain ⟨t, v, d, ns, rfl, S1, hd, k1, k2⟩ := h
    refine ⟨_, (pss_one (ps_if (PW.pt (pw_or (pt_not (pt_val (pe_cal C_is_pair_of hr rfl pass0 (pa_cons (pe_callB call_len_seq (by rfl) T.len PySem.boot_len (pa_cons (pv 0) pa_nil)) (pa_cons (pv 1) pa_nil))))) (pw_or1 (pt_not (pt_val (pe_cal C_can_be_made hr rfl pass0 (pa_cons (pv 0) (pa_cons (pv 1) pa_nil)))))))) (pss_one (ps_raise rfl (takes_of rfl rfl rfl rfl) (pmk_nil B (hr.mono (by decide : 1 ≤ 2)) rfl))) pss_nil)), ?_⟩
    refine ⟨_, rfl, t, _, rfl, .inr S1, _, rfl, v, d, _, rfl, hd, _, rfl, ?_⟩
    rw [List.length_map]
    cases hp : prD ns.length d with
    | false => exact iteT (k2 (stD_nopr hp))
    | true =>
      obtain ⟨i, j, rfl, hi, hj, hij⟩ := prD_eq hp
      cases hd with
      | tup hU hA =>
      cases hA with
      | cons ha hB =>
      cases hB with
      | cons hb hC =>
      cases hC
      cases ha
      cases hb
      refine iteF ⟨_, rfl, _, rfl, t, _, ns, i, j, rfl, S1, hU, hi, hj, _, rfl, ?_⟩
      cases hc : can ns i j with
      | true => exact iteF (k1 (by rw [stD_dS, hc, decide_eq_true hi, decide_eq_true hj, decide_eq_true hij]; rfl))
      | false => exact iteT (k2 (by rw [stD_dS, hc, Bool.and_false]))
end
end Hd
set_option maxHeartbeats 4000000
/-! The law's own steps; what changes and what stays. -/
namespace Hd
open PySem PySem.Spec PyProof.Rows L2
def mutO : HO → Bool
  | .lst _ => true
  | .dK _ => true
  | .dT _ => true
  | _ => false
/-- what stands at no place of M, or never changes, stands as it stood -/
structure Chg (M : List Addr) (H H' : Hp) : Prop where
  keep : ∀ a o, H a = some o → (mutO o = false ∨ a ∉ M) → H' a = some o
  there : ∀ a o, H a = some o → ∃ o', H' a = some o'
theorem Chg.refl {M : List Addr} {H : Hp} : Chg M H H := ⟨fun _ _ e _ => e, fun _ o e => ⟨o, e⟩⟩
theorem Chg.of {M : List Addr} {H H' : Hp} (s : Same H H') : Chg M H H' := ⟨fun a o e _ => s a o e, fun a o e => ⟨o, s a o e⟩⟩
theorem Chg.trans {M : List Addr} {H H1 H2 : Hp} (a : Chg M H H1) (b : Chg M H1 H2) : Chg M H H2 :=
  ⟨fun x o e n => b.keep x o (a.keep x o e n) n, fun x o e => by
    obtain ⟨o1, e1⟩ := a.there x o e
    exact b.there x o1 e1⟩
theorem Chg.mono {M N : List Addr} {H H' : Hp} (c : Chg M H H') (h : ∀ a ∈ M, a ∈ N) : Chg N H H' := ⟨fun a o e n => c.keep a o e (n.imp id fun z q => z (h a q)), c.there⟩
theorem Chg.upd {M : List Addr} {H H' : Hp} {a : Addr} {o : HO} (c : Chg M H H') (h : a ∈ M) (m : ∀ u, H' a = some u → mutO u = true) : Chg M H (upd H' a o) :=
  ⟨fun x u e n => by
    have e' := c.keep x u e n
    by_cases q : x = a
    · subst q
      rcases n with n | n
      · rw [m u e'] at n
        cases n
      · exact absurd h n
    · rw [upd_ne q]
      exact e', fun x u e => by
    by_cases q : x = a
    · exact ⟨o, by rw [q, upd_same]⟩
    · rw [upd_ne q]
      exact c.there x u e⟩
theorem Chg.free {M : List Addr} {H H' : Hp} {p : Addr} (c : Chg M H H') (h : H' p = none) : H p = none := by
  cases e : H p with
  | none => rfl
  | some o =>
    obtain ⟨o', e'⟩ := c.there p o e
    rw [h] at e'
    cases e'
theorem Chg.new {M : List Addr} {H H1 : Hp} {p : Addr} {o : HO} (c : Chg M H H1) (hp : H1 p = none) : Chg M H (L2.upd H1 p o) := c.trans (.of (Same.new hp))
theorem Chg.tup {M : List Addr} {K : PySem.W.Frag} {H H' : Hp} {a : Addr} {xs : List V} (c : Chg M H H') (h : SqT K H a xs) : SqT K H' a xs := by
  rcases h with (h | ⟨o, h⟩) | h
  · exact .inl (.inl (c.keep _ _ h (.inl rfl)))
  · exact .inl (.inr ⟨o, c.keep _ _ h (.inl rfl)⟩)
  · exact .inr h
theorem Chg.st {M : List Addr} {K : PySem.W.Frag} {H H' : Hp} {n : Nat} {p : Srow} (c : Chg M H H') (h : StAt K H n p) : StAt K H' n p := ⟨c.tup h.1, h.2⟩
/-- what was not there may change -/
theorem Same.chg {M : List Addr} {H H1 H2 : Hp} (s : Same H H1) (c : Chg M H1 H2) (h : ∀ a ∈ M, H a = none) : Same H H2 := fun a o e => c.keep a o (s a o e) (.inr fun q => by rw [h a q] at e; cases e)
theorem Kept.chg {h c : Addr} {H H' : Hp} (k : Kept h c H H') (d : DrawAt H h c) (d' : DrawAt H' h c) : Chg [h, c] H H' := by
  obtain ⟨⟨st, ix, cells, h1, h2, h3⟩, ne⟩ := d
  obtain ⟨⟨st', ix', cells', h1', h2', h3'⟩, ne'⟩ := d'
  refine ⟨fun a o e n => ?_, fun a o e => ?_⟩
  · refine k a o e ?_ ?_
    · rintro rfl
      rcases n with n | n
      · rw [h1] at e
        cases e
        cases n
      · exact n (List.mem_cons_self ..)
    · rintro rfl
      rcases n with n | n
      · rw [h2] at e
        cases e
        cases n
      · exact n (List.mem_cons_of_mem _ (List.mem_cons_self ..))
  · by_cases q1 : a = h
    · exact ⟨_, by rw [q1]; exact h1'⟩
    · by_cases q2 : a = c
      · exact ⟨_, by rw [q2]; exact h2'⟩
      · exact ⟨o, k a o e q1 q2⟩
theorem DrawAt.chg {M : List Addr} {H H' : Hp} {h c : Addr} (d : DrawAt H h c) (g : Chg M H H') (n1 : h ∉ M) (n2 : c ∉ M) : DrawAt H' h c := by
  obtain ⟨⟨st, ix, cells, h1, h2, h3⟩, ne⟩ := d
  exact ⟨⟨st, ix, cells, g.keep _ _ h1 (.inr n1), g.keep _ _ h2 (.inr n2), h3⟩, ne⟩
section
variable {P : Program} {w : World} {K : PySem.W.Frag} {mg : Str → Option Value} {base : Heap}
abbrev s_l_can : Stmt := top 25
theorem sc_l_can : FnScope ["_law_heaps_here", "_law_step"] ["_law_heaps_here", "_law_step"] (defScope s_l_can) := ⟨rfl, rfl, rfl, by decide +kernel, rfl, by decide +kernel, by decide +kernel⟩
theorem ok_l_can {f : Addr} {fd : FuncData} (F : Fun K "_law_can" "_law_can" s_l_can f fd) : FnOk P w K mg base CX0 1 f fd ["_law_heaps_here", "_law_step"] (spCan K) := by
  refine F.ok sc_l_can (fun vs H Q E h => ?_) (fun cdv A outer s H vs Q E hr h => ?_)
  · obtain ⟨t, u, ns, i, j, rfl, _⟩ := h
    rfl
  · obtain ⟨t, u, ns, i, j, rfl, hS, hU, hi, hj, k⟩ := h
    refine ⟨_, (pss_one (ps_ret (pe_chain op_lt op_le pe_int (pe_ix ix_tup (pv 0) (pe_ix ix_tup (pv 1) pe_int (fun _ _ => rfl)) (fun _ _ => rfl)) (pe_ix ix_tup (pv 0) (pe_ix ix_tup (pv 1) pe_int (fun _ _ => rfl)) (fun _ _ => rfl))))), ?_⟩
    refine ⟨_, rfl, _, rfl, u, _, _, _, rfl, rfl, hU, rfl, t, _, _, _, rfl, rfl, hS, at_of rfl (getD_at hj), _, _, rfl, rfl, _, rfl, ?_⟩
    unfold can at k
    cases hd : decide (0 < ns.getD j 0) with
    | false =>
      rw [hd] at k
      exact iteF k
    | true =>
      rw [hd] at k
      exact iteT ⟨_, rfl, _, rfl, u, _, _, _, rfl, rfl, hU, rfl, t, _, _, _, rfl, rfl, hS, at_of rfl (getD_at hi), _, _, rfl, rfl, k⟩
abbrev s_l_behind : Stmt := top 26
theorem sc_l_behind : FnScope ["_law_heaps_here", "_law_step", "_law_row"] ["_law_heaps_here", "_law_step"] (defScope s_l_behind) := ⟨rfl, rfl, rfl, by decide +kernel, rfl, by decide +kernel, by decide +kernel⟩
theorem ok_l_behind {f : Addr} {fd : FuncData} (F : Fun K "_law_behind" "_law_behind" s_l_behind f fd) (T : Tx K mg) : FnOk P w K mg base CX0 1 f fd ["_law_heaps_here", "_law_step"] (spBehind K) := by
  refine F.ok sc_l_behind (fun vs H Q E h => ?_) (fun cdv A outer s H vs Q E hr h => ?_)
  · obtain ⟨t, u, ns, i, j, rfl, _⟩ := h
    rfl
  · obtain ⟨t, u, ns, i, j, rfl, hS, hU, hi, hj, hij, k⟩ := h
    refine ⟨_, (pss_cons (ps_set (i := 2) sc_l_behind.nd rfl (Or.inl rfl) (pe_callTy call_list_of (by rfl) T.list (by decide +kernel) (pa_cons (pv 0) pa_nil)))
      (pss_cons (ps_asg (pe_op op_sub (pe_ix ix_list (pv 2) (pe_ix ix_tup (pv 1) pe_int (fun _ _ => rfl)) (fun _ _ => rfl)) (pe_ix ix_tup (pv 0) (pe_ix ix_tup (pv 1) pe_int (fun _ _ => rfl)) (fun _ _ => rfl))) (pg_sub (pv 2) (pe_ix ix_tup (pv 1) pe_int (fun _ _ => rfl)) set_list))
      (pss_cons (ps_asg (pe_op op_add (pe_ix ix_list (pv 2) (pe_ix ix_tup (pv 1) pe_int (fun _ _ => rfl)) (fun _ _ => rfl)) (pe_ix ix_tup (pv 0) (pe_ix ix_tup (pv 1) pe_int (fun _ _ => rfl)) (fun _ _ => rfl))) (pg_sub (pv 2) (pe_ix ix_tup (pv 1) pe_int (fun _ _ => rfl)) set_list))
      (pss_one (ps_ret (pe_callTy call_tuple_of (by rfl) T.tuple (by decide +kernel) (pa_cons (pv 2) pa_nil))))))), ?_⟩
    refine ⟨_, rfl, t, _, rfl, .inr hS, fun l hl => ?_⟩
    have s1 : Same H (upd H l (.lst (ns.map V.int))) := Same.new hl
    refine ⟨_, rfl, _, rfl, u, _, _, _, rfl, rfl, Same.tup s1 hU, rfl, l, _, _, _, rfl, rfl, SqL.of upd_same, at_of rfl (getD_at hi), _, rfl, _, rfl, u, _, _, _, rfl, rfl, Same.tup s1 hU, rfl, t, _, _, _, rfl, rfl, Same.tup s1 hS, at_of rfl (getD_at hj), _, _, rfl, rfl, ?_⟩
    refine ⟨_, rfl, _, rfl, u, _, _, _, rfl, rfl, Same.tup s1 hU, rfl, l, _, _, i, rfl, rfl, upd_same, (by rw [List.length_map]; exact ixN_nat hi), ?_⟩
    rw [upd_upd]
    have s2 : Same H (upd H l (.lst ((ns.map V.int).set i (.int (ns.getD i 0 - ns.getD j 0))))) := Same.new hl
    refine ⟨_, rfl, _, rfl, u, _, _, _, rfl, rfl, Same.tup s2 hU, rfl, l, _, _, _, rfl, rfl, SqL.of upd_same, at_of rfl (by rw [List.getElem?_set_ne hij]; exact getD_at hj), _, rfl, _, rfl, u, _, _, _, rfl, rfl, Same.tup s2 hU, rfl, t, _, _, _, rfl, rfl, Same.tup s2 hS, at_of rfl (getD_at hj), _, _, rfl, rfl, ?_⟩
    refine ⟨_, rfl, _, rfl, u, _, _, _, rfl, rfl, Same.tup s2 hU, rfl, l, _, _, j, rfl, rfl, upd_same, (by rw [List.length_set, List.length_map]; exact ixN_nat hj), ?_⟩
    rw [upd_upd]
    refine ⟨_, rfl, l, _, rfl, .inl ⟨SqL.of upd_same, fun p hp => ?_⟩⟩
    have hpl : p ≠ l := fun e => by
      rw [e, upd_same] at hp
      cases hp
    have hp0 : H p = none := by
      rw [upd_ne hpl] at hp
      exact hp
    refine k p _ (same_upd (Same.new hl) hp0) hp0 ?_
    rw [upd_same]
    unfold mv shf
    rw [List.map_set, List.map_set]
abbrev s_l_pairs : Stmt := top 27
theorem sc_l_pairs : FnScope ["_law_size", "_law_found", "_law_one", "_law_other"] ["_law_size"] (defScope s_l_pairs) := ⟨rfl, rfl, rfl, by decide +kernel, rfl, by decide +kernel, by decide +kernel⟩
theorem ok_l_pairs {f : Addr} {fd : FuncData} (F : Fun K "_law_pairs" "_law_pairs" s_l_pairs f fd) (T : Tx K mg) : FnOk P w K mg base CX0 1 f fd ["_law_size"] (spPairs K) := by
  refine F.ok sc_l_pairs (fun vs H Q E h => ?_) (fun cdv A outer s H vs Q E hr h => ?_)
  · obtain ⟨n, rfl, _⟩ := h
    rfl
  · obtain ⟨n, rfl, hn, k⟩ := h
    refine ⟨_, (pss_cons (ps_set (i := 1) sc_l_pairs.nd rfl (Or.inl rfl) (pe_lst pa_nil))
      (pss_cons (ps_for PassesOwn.never rfl (pi_range1 rfl T.range (pa_cons (pv 0) pa_nil)) (pg_name (i := 2) sc_l_pairs.nd rfl (Or.inr rfl))
      (pss_one (ps_set (i := 1) sc_l_pairs.nd rfl (Or.inl rfl) (pe_op op_cat (pv 1) (pe_lc (own := [("_law_other", 3)]) (g := gName 3) (by rfl) sc_l_pairs.nd (pi_range1 rfl T.range (pa_cons (pv 0) pa_nil)) (blkOk_by (own := [("_law_other", 3)]) (N := ["_law_size", "_law_found", "_law_one", "_law_other"]) (sc := defScope s_l_pairs) (by decide +kernel)) (fun _ _ _ _ _ => pg_name (i := 3) sc_l_pairs.nd rfl (Or.inl rfl)) (fun _ _ _ _ _ => pts_one (pt_cmpR op_ne (pv 3) (pv 2) (nomark _))) (fun _ _ _ _ _ => (pe_tup (pa_cons (pv 2) (pa_cons (pv 3) pa_nil)))))))))
      (pss_one (ps_ret (pv 1))))), ?_⟩
    refine ⟨by show 0 ≤ sizeLine; decide, fun l0 hl0 => ?_⟩
    refine ⟨_, rfl, _, rfl, by omega, by omega, ?_⟩
    rw [Int.toNat_natCast]
    refine for_range (lo := 0) (n := n) (fun i σ H1 => ∃ (l : Addr) (qs : List (Addr × Nat × Nat)) (v1 v2 : Option V), σ = [some (.int (n : Int)), some (.ref l), v1, v2] ∧ Same H H1 ∧ H l = none ∧ PrL K H1 l n qs ∧ qs.map (·.2) = prsTo n i) ⟨l0, [], none, none, rfl, Same.new hl0, hl0, ⟨upd_same, fun p hp => (nomatch hp)⟩, rfl⟩ ?_ ?_
    · rintro i σ H1 hi ⟨l, qs, v1, v2, rfl, s1, hl, hP, hq⟩
      rw [Int.zero_add]
      have hql : qs.length ≤ 36 := by
        have e := congrArg List.length hq
        rw [List.length_map] at e
        rw [e]
        exact prsTo_short hn i (by omega)
      refine ⟨_, rfl, _, rfl, _, rfl, by omega, by omega, ?_⟩
      rw [Int.toNat_natCast]
      intro D hD
      refine lc_range (lo := 0) (n := n) (fun j H2 => ∃ rs : List (Addr × Nat × Nat), Same H1 H2 ∧ PrL K H2 D n rs ∧ rs.map (·.2) = rowTo i j) ⟨[], Same.new hD, ⟨upd_same, fun p hp => (nomatch hp)⟩, rfl⟩ ?_ ?_
      · rintro j H2 hj ⟨rs, s2, hR, hr2⟩
        rw [Int.zero_add]
        refine ⟨rfl, _, rfl, _, rfl, rfl, _, rfl, ?_⟩
        rw [dec_int]
        have hrl : rs.length ≤ j := by
          have e := congrArg List.length hr2
          rw [List.length_map] at e
          rw [e]
          unfold rowTo
          rw [List.length_map]
          exact Nat.le_trans (List.length_filter_le _ _) (by rw [List.length_range]; exact Nat.le_refl _)
        by_cases hji : j = i
        · have z : decide ((j : Int) = (i : Int)) = true := decide_eq_true (by omega)
          rw [z]
          refine iteF ⟨rs, s2, hR, ?_⟩
          rw [rowTo_succ, if_pos hji, List.append_nil]
          exact hr2
        · have z : decide ((j : Int) = (i : Int)) = false := decide_eq_false (by omega)
          rw [z]
          refine iteT ⟨_, rfl, _, rfl, by show 2 ≤ sizeLine; decide, fun TT hT => ?_⟩
          have s3 : Same H2 (upd H2 TT (.tup [.int (i : Int), .int (j : Int)])) := Same.new hT
          refine ⟨_, s3 _ _ hR.ls, ?_, rs ++ [(TT, i, j)], same_upd (s2.trans s3) hD, ⟨?_, fun p hp => ?_⟩, ?_⟩
          · rw [List.length_map, sizeLine_eq]
            omega
          · rw [upd_same, List.map_append]
            rfl
          · have nTD : TT ≠ D := (ne_of_none hR.ls hT).symm
            rcases List.mem_append.mp hp with hp | hp
            · obtain ⟨a, b⟩ := hR.st p hp
              refine ⟨?_, b⟩
              have a3 := Same.tup s3 a
              have a4 : SqT K (upd (upd H2 TT (.tup [.int (i : Int), .int (j : Int)])) D (.lst (rs.map (fun p => V.ref p.1) ++ [V.ref TT]))) p.1 [.int (p.2.1 : Int), .int (p.2.2 : Int)] := by
                rcases a3 with (a3 | ⟨o, a3⟩) | a3
                · exact .inl (.inl (by rw [upd_ne (ne_of a3 (s3 _ _ hR.ls) (by intro z; cases z))]; exact a3))
                · exact .inl (.inr ⟨o, by rw [upd_ne (ne_of a3 (s3 _ _ hR.ls) (by intro z; cases z))]; exact a3⟩)
                · exact .inr a3
              exact a4
            · have ep : p = (TT, i, j) := by simpa using hp
              subst ep
              exact ⟨SqT.of (by rw [upd_ne nTD, upd_same]), hi, hj, fun z => hji z.symm⟩
          · rw [List.map_append, hr2, rowTo_succ, if_neg hji]
            rfl
      · rintro H2 ⟨rs, s2, hR, hr2⟩
        refine ⟨l, D, _, _, rfl, rfl, s2 _ _ hP.ls, hR.ls, ?_, fun p hp => ?_⟩
        · have e := congrArg List.length hr2
          rw [List.length_map] at e
          unfold rowTo at e
          rw [List.length_map] at e
          have := List.length_filter_le (fun j => decide (j ≠ i)) (List.range n)
          rw [List.length_range] at this
          rw [List.length_map, List.length_map, sizeLine_eq]
          omega
        have s3 : Same H2 (upd H2 p (.lst (qs.map (fun p => V.ref p.1) ++ rs.map (fun p => V.ref p.1)))) := Same.new hp
        have s4 := (s1.trans s2).trans s3
        refine ⟨p, qs ++ rs, _, _, rfl, s4, (s1.trans s2).free hp, ⟨by rw [upd_same, List.map_append], fun q hq' => ?_⟩, by rw [List.map_append, hq, hr2, prsTo_succ]; rfl⟩
        rcases List.mem_append.mp hq' with hq' | hq'
        · exact (hP.same (s2.trans s3)).st q hq'
        · exact (hR.same s3).st q hq'
    · rintro σ H1 ⟨l, qs, v1, v2, rfl, s1, hl, hP, hq⟩
      exact ⟨_, rfl, k l qs H1 s1 hl hP hq⟩
end
end Hd
set_option maxHeartbeats 4000000
/-! A desk: what it holds, what each method does. -/
namespace Hd
open PySem PySem.Spec PyProof.Rows L2
/-! ### numbers: heaps behind the first steps -/
def fin (s : List Int) (st : List (Nat × Nat)) : List Int := st.foldl (fun m p => mv m p.1 p.2) s
def scan (s : List Int) (st : List (Nat × Nat)) : List (List Int) := (List.range (st.length + 1)).map fun i => fin s (st.take i)
theorem fin_snoc (s : List Int) (st : List (Nat × Nat)) (p : Nat × Nat) : fin s (st ++ [p]) = mv (fin s st) p.1 p.2 := by
  unfold fin
  rw [List.foldl_append]
  rfl
theorem scan_snoc (s : List Int) (st : List (Nat × Nat)) (p : Nat × Nat) : scan s (st ++ [p]) = scan s st ++ [mv (fin s st) p.1 p.2] := by
  unfold scan
  rw [List.length_append, List.length_singleton, List.range_succ, List.map_append]
  congr 1
  · refine List.map_congr_left fun i hi => ?_
    have := List.mem_range.mp hi
    rw [List.take_append_of_le_length (by omega)]
  · rw [List.map_cons, List.map_nil, ← fin_snoc, List.take_of_length_le (by simp)]
theorem scan_len (s : List Int) (st : List (Nat × Nat)) : (scan s st).length = st.length + 1 := by
  unfold scan
  rw [List.length_map, List.length_range]
theorem scan_get (s : List Int) (st : List (Nat × Nat)) {i : Nat} (h : i ≤ st.length) : (scan s st)[i]? = some (fin s (st.take i)) := by
  unfold scan
  rw [List.getElem?_map, List.getElem?_range (by omega)]
  rfl
theorem scan_last (s : List Int) (st : List (Nat × Nat)) : (scan s st)[st.length]? = some (fin s st) := by
  rw [scan_get s st (Nat.le_refl _), List.take_length]
theorem scan_drop (s : List Int) (st : List (Nat × Nat)) (h : st ≠ []) : scan s st.dropLast = (scan s st).dropLast := by
  have e := scan_snoc s st.dropLast (st.getLast h)
  rw [List.dropLast_concat_getLast h] at e
  rw [e, List.dropLast_concat]
theorem fin_len (s : List Int) (st : List (Nat × Nat)) : (fin s st).length = s.length := by
  induction st generalizing s with
  | nil => rfl
  | cons p st ih => 
    show (fin (mv s p.1 p.2) st).length = _
    rw [ih, len_mv]
/-- every step can be made where it is made -/
def Can (s : List Int) (st : List (Nat × Nat)) : Prop := ∀ i (h : i < st.length), (st[i]).1 < s.length ∧ (st[i]).2 < s.length ∧ (st[i]).1 ≠ (st[i]).2 ∧ can (fin s (st.take i)) (st[i]).1 (st[i]).2 = true
theorem Can.nil (s : List Int) : Can s [] := fun i h => absurd h (by simp)
theorem Can.snoc {s : List Int} {st : List (Nat × Nat)} {p : Nat × Nat} (h : Can s st) (h1 : p.1 < s.length) (h2 : p.2 < s.length) (h3 : p.1 ≠ p.2) (hc : can (fin s st) p.1 p.2 = true) : Can s (st ++ [p]) := fun i hi => by
  rw [List.length_append, List.length_singleton] at hi
  by_cases q : i < st.length
  · rw [List.getElem_append_left q, List.take_append_of_le_length (by omega)]
    exact h i q
  · have e : i = st.length := by omega
    subst e
    rw [List.getElem_append_right (by omega), List.take_append_of_le_length (by omega), List.take_length]
    simpa using ⟨h1, h2, h3, hc⟩
theorem Can.take {s : List Int} {st : List (Nat × Nat)} (h : Can s st) (k : Nat) : Can s (st.take k) := fun i hi => by
  rw [List.length_take] at hi
  rw [List.getElem_take, List.take_take, Nat.min_eq_left (by omega)]
  exact h i (by omega)
theorem Can.drop {s : List Int} {st : List (Nat × Nat)} (h : Can s st) : Can s st.dropLast := by
  rw [List.dropLast_eq_take]
  exact h.take _
/-! ### the object -/
def pf (ls lt : Addr) : List (Str × V) := putF "_steps" (.ref lt) (putF "_stands" (.ref ls) [])
theorem ne_ss : ¬ (("_stands" : Str) = "_steps") := by decide +kernel
theorem ne_ts : ¬ (("_steps" : Str) = "_stands") := by decide +kernel
theorem pf_stands (ls lt : Addr) : (pf ls lt).lookup ("_stands" : Str) = some (.ref ls) := by
  unfold pf
  rw [lookup_putF, if_neg ne_ss, lookup_putF, if_pos rfl]
theorem pf_steps (ls lt : Addr) : (pf ls lt).lookup ("_steps" : Str) = some (.ref lt) := by
  unfold pf
  rw [lookup_putF, if_pos rfl]
theorem pf_no (ls lt : Addr) {m : Str} (h1 : ¬ m = "_steps") (h2 : ¬ m = "_stands") : (pf ls lt).lookup m = none := by
  unfold pf
  rw [lookup_putF, if_neg h1, lookup_putF, if_neg h2]
  all_goals rfl
theorem pf_move (ls lt : Addr) : (pf ls lt).lookup ("move" : Str) = none := pf_no _ _ (by decide +kernel) (by decide +kernel)
theorem pf_undo (ls lt : Addr) : (pf ls lt).lookup ("undo" : Str) = none := pf_no _ _ (by decide +kernel) (by decide +kernel)
theorem pf_copy (ls lt : Addr) : (pf ls lt).lookup ("copy" : Str) = none := pf_no _ _ (by decide +kernel) (by decide +kernel)
theorem pf_empties (ls lt : Addr) : (pf ls lt).lookup ("empties" : Str) = none := pf_no _ _ (by decide +kernel) (by decide +kernel)
/-- a list at l of heaps whose tuples bear no dict -/
structure HpZ (H : Hp) (l : Addr) (hs : List Hrow) : Prop where
  ls : H l = some (.lst (hs.map fun p => V.ref p.1))
  st : ∀ p ∈ hs, TupZ H p.1 (p.2.map V.int)
theorem Chg.tz {M : List Addr} {H H' : Hp} {a : Addr} {xs : List V} (c : Chg M H H') (h : TupZ H a xs) : TupZ H' a xs := by
  obtain ⟨o, d, h⟩ := h
  exact ⟨o, d, c.keep _ _ h (.inl rfl)⟩
/-- the desk at d: its lists at ls, lt; it began with s and made st -/
structure DeskAt (K : PySem.W.Frag) (C : Addr) (H : Hp) (d ls lt : Addr) (s : List Int) (st : List (Nat × Nat)) (hs : List Hrow) (ps : List Srow) : Prop where
  ins : ∃ dx, H d = some (.ins C dx (pf ls lt))
  sl : HpZ H ls hs
  pl : PrL K H lt s.length ps
  ne : ls ≠ lt
  hs_ : hs.map (·.2) = scan s st
  ps_ : ps.map (·.2) = st
  good : hpsB s = true
  can : Can s st
theorem DeskAt.chg {K : PySem.W.Frag} {C : Addr} {H H' : Hp} {M : List Addr} {d ls lt : Addr} {s : List Int} {st : List (Nat × Nat)} {hs : List Hrow} {ps : List Srow} (D : DeskAt K C H d ls lt s st hs ps) (c : Chg M H H') (n1 : ls ∉ M) (n2 : lt ∉ M) : DeskAt K C H' d ls lt s st hs ps := by
  obtain ⟨⟨dx, i⟩, ⟨l1, l2⟩, ⟨p1, p2⟩, ne, e1, e2, g, cn⟩ := D
  exact ⟨⟨dx, c.keep _ _ i (.inl rfl)⟩, ⟨c.keep _ _ l1 (.inr n1), fun p hp => c.tz (l2 p hp)⟩, ⟨c.keep _ _ p1 (.inr n2), fun p hp => c.st (p2 p hp)⟩, ne, e1, e2, g, cn⟩
theorem DeskAt.same {K : PySem.W.Frag} {C : Addr} {H H' : Hp} {d ls lt : Addr} {s : List Int} {st : List (Nat × Nat)} {hs : List Hrow} {ps : List Srow} (D : DeskAt K C H d ls lt s st hs ps) (e : Same H H') : DeskAt K C H' d ls lt s st hs ps :=
  D.chg (M := []) (.of e) (by simp) (by simp)
theorem DeskAt.plen {K : PySem.W.Frag} {C : Addr} {H : Hp} {d ls lt : Addr} {s : List Int} {st : List (Nat × Nat)} {hs : List Hrow} {ps : List Srow} (D : DeskAt K C H d ls lt s st hs ps) : ps.length = st.length := by rw [← D.ps_, List.length_map]
theorem DeskAt.hlen {K : PySem.W.Frag} {C : Addr} {H : Hp} {d ls lt : Addr} {s : List Int} {st : List (Nat × Nat)} {hs : List Hrow} {ps : List Srow} (D : DeskAt K C H d ls lt s st hs ps) : hs.length = st.length + 1 := by rw [← scan_len s st, ← D.hs_, List.length_map]
/-- the heaps that stand -/
theorem DeskAt.last {K : PySem.W.Frag} {C : Addr} {H : Hp} {d ls lt : Addr} {s : List Int} {st : List (Nat × Nat)} {hs : List Hrow} {ps : List Srow} (D : DeskAt K C H d ls lt s st hs ps) : ∃ t, hs[st.length]? = some (t, fin s st) ∧ TupZ H t ((fin s st).map V.int) := by
  have e := scan_last s st
  rw [← D.hs_, List.getElem?_map] at e
  obtain ⟨p, hp, e2⟩ := Option.map_eq_some_iff.mp e
  refine ⟨p.1, ?_, ?_⟩
  · rw [hp, ← e2]
  · have := D.sl.st p (List.mem_of_getElem? hp)
    rw [e2] at this
    exact this
theorem DeskAt.plan {K : PySem.W.Frag} {C : Addr} {H : Hp} {d ls lt : Addr} {s : List Int} {st : List (Nat × Nat)} {hs : List Hrow} {ps : List Srow} (D : DeskAt K C H d ls lt s st hs ps) : ∀ p ∈ ps, StAt K H s.length p := D.pl.st
theorem at_neg1 {xs : List V} {v : V} {n : Nat} (h : xs[n]? = some v) (hn : n + 1 = xs.length) : atI xs (-1) = some v := by
  have e : xs = xs.take n ++ [v] := by
    have q := List.take_append_drop n xs
    have z : xs.drop n = [v] := by
      obtain ⟨hlt, he⟩ := List.getElem?_eq_some_iff.mp h
      rw [List.drop_eq_getElem_cons hlt, he, List.drop_of_length_le (by omega)]
    rw [z] at q
    exact q.symm
  rw [e]
  exact atI_last _ v
structure DskT (K : PySem.W.Frag) (mg : Str → Option Value) (C : Addr) : Prop extends Tp mg where
  cl : Cls K C
  nS : NoAttr K C "_stands"
  nT : NoAttr K C "_steps"
/-! ### the promises -/
def spInit (K : PySem.W.Frag) (C : Addr) : Sp := fun vs H Q _ => ∃ (d dx t : Addr) (s : List Int), vs = [.ref d, .ref t] ∧ H d = some (.ins C dx []) ∧ TupZ H t (s.map V.int) ∧ hpsB s = true ∧
  ∀ (ls lt : Addr) (H' : Hp), H ls = none → H lt = none → (∀ a o, H a = some o → a ≠ d → H' a = some o) → DeskAt K C H' d ls lt s [] [(t, s)] [] → Q .non H'
def spDHeaps (K : PySem.W.Frag) (C : Addr) : Sp := fun vs H Q _ => ∃ (d ls lt : Addr) (s : List Int) (st : List (Nat × Nat)) (hs : List Hrow) (ps : List Srow), vs = [.ref d] ∧ DeskAt K C H d ls lt s st hs ps ∧ ∀ t, TupZ H t ((fin s st).map V.int) → Q (.ref t) H
def spPlan (K : PySem.W.Frag) (C : Addr) : Sp := fun vs H Q _ => ∃ (d ls lt : Addr) (s : List Int) (st : List (Nat × Nat)) (hs : List Hrow) (ps : List Srow), vs = [.ref d] ∧ DeskAt K C H d ls lt s st hs ps ∧ ∀ (p : Addr) (H' : Hp), Same H H' → H p = none → H' p = some (.tup (ps.map fun p => V.ref p.1)) → Q (.ref p) H'
def spMove (K : PySem.W.Frag) (C S F : Addr) : Sp := fun vs H Q E => ∃ (d ls lt : Addr) (s : List Int) (st : List (Nat × Nat)) (hs : List Hrow) (ps : List Srow) (x y : V) (dx dy : PyData), vs = [.ref d, x, y] ∧ DeskAt K C H d ls lt s st hs ps ∧ st.length ≤ 1000 ∧ Dp K H x dx ∧ Dp K H y dy ∧
  (∀ i j : Nat, PyData.tuple [dx, dy] = dS (i, j) → i < s.length → j < s.length → i ≠ j → can (fin s st) i j = true → st.length < 100 → ∀ (e u : Addr) (H' : Hp), Chg [ls, lt] H H' → H e = none → H u = none → DeskAt K C H' d ls lt s (st ++ [(i, j)]) (hs ++ [(e, mv (fin s st) i j)]) (ps ++ [(u, i, j)]) → Q (.int ((fin s st).getD j 0)) H') ∧
  (stD (fin s st) (.tuple [dx, dy]) = false → ∀ H', Same H H' → E (.ref S) none H') ∧
  (stD (fin s st) (.tuple [dx, dy]) = true → 100 ≤ st.length → ∀ H', Same H H' → E (.ref F) none H')
def spEmpties (K : PySem.W.Frag) (C : Addr) : Sp := fun vs H Q _ => ∃ (d ls lt : Addr) (s : List Int) (st : List (Nat × Nat)) (hs : List Hrow) (ps : List Srow), vs = [.ref d] ∧ DeskAt K C H d ls lt s st hs ps ∧ Q (.int (((fin s st).count 0 : Nat) : Int)) H
def spUndo (K : PySem.W.Frag) (C : Addr) : Sp := fun vs H Q _ => ∃ (d ls lt : Addr) (s : List Int) (st : List (Nat × Nat)) (hs : List Hrow) (ps : List Srow), vs = [.ref d] ∧ DeskAt K C H d ls lt s st hs ps ∧
  (st = [] → Q (.bl false) H) ∧ (st ≠ [] → ∀ H', Chg [ls, lt] H H' → DeskAt K C H' d ls lt s st.dropLast hs.dropLast ps.dropLast → Q (.bl true) H')
def spCopy (K : PySem.W.Frag) (C : Addr) : Sp := fun vs H Q _ => ∃ (d ls lt : Addr) (s : List Int) (st : List (Nat × Nat)) (hs : List Hrow) (ps : List Srow), vs = [.ref d] ∧ DeskAt K C H d ls lt s st hs ps ∧ st.length ≤ 100 ∧
  ∀ (d' ls' lt' : Addr) (hs' : List Hrow) (ps' : List Srow) (H' : Hp), Same H H' → H ls' = none → H lt' = none → DeskAt K C H' d' ls' lt' s st hs' ps' → Q (.ref d') H'
def spDLen (K : PySem.W.Frag) (C : Addr) : Sp := fun vs H Q _ => ∃ (d ls lt : Addr) (s : List Int) (st : List (Nat × Nat)) (hs : List Hrow) (ps : List Srow), vs = [.ref d] ∧ DeskAt K C H d ls lt s st hs ps ∧ Q (.int (st.length : Int)) H
section
variable {P : Program} {w : World} {K : PySem.W.Frag} {mg : Str → Option Value} {base : Heap}
abbrev s_Desk_init : Stmt := inClass (top 20) 0
theorem sc_Desk_init : FnScope ["self", "heaps"] ["self", "heaps"] (defScope s_Desk_init) := ⟨rfl, rfl, rfl, by decide +kernel, rfl, by decide +kernel, by decide +kernel⟩
theorem ok_Desk_init {f C : Addr} {fd : FuncData} (F : Fun K "__init__" "Desk.__init__" s_Desk_init f fd) (T : DskT K mg C) (C_check_heaps : Cal P w K mg base CX0 3 "check_heaps" ["heaps"] (spChkHeaps K)) : FnOk P w K mg base CX0 4 f fd ["self", "heaps"] (spInit K C) := by
  refine F.ok sc_Desk_init (fun vs H Q E h => ?_) (fun cdv A outer s H vs Q E hr h => ?_)
  · obtain ⟨d, dx, t, s, rfl, _⟩ := h
    rfl
  · obtain ⟨d, dx, t, s, rfl, hd, hS, hg, k⟩ := h
    refine ⟨_, (pss_cons (ps_expr (pe_cal C_check_heaps hr rfl pass0 (pa_cons (pv 1) pa_nil)))
      (pss_cons (ps_fld (pv 0) (pe_lst (pa_cons (pv 1) pa_nil)) rfl)
      (pss_one (ps_fld (pv 0) (pe_lst pa_nil) rfl)))), ?_⟩
    refine ⟨_, rfl, t, s, rfl, hS.sq, hg, fun H1 s1 => ?_⟩
    have hd1 := s1 _ _ hd
    refine ⟨_, rfl, by show 1 ≤ sizeLine; decide, fun ls hls => ?_⟩
    have n1 : d ≠ ls := ne_of_none hd1 hls
    refine ⟨_, rfl, d, C, dx, [], rfl, (by rw [upd_ne n1]; exact hd1), T.cl, T.nS, (by show 0 < 1000; decide), Nat.zero_le _, fun lt hlt => ?_⟩
    have n2 : d ≠ lt := fun q => by
      rw [q, upd_same] at hlt
      cases hlt
    have n3 : ls ≠ lt := fun q => by
      rw [← q, upd_ne n1.symm, upd_same] at hlt
      cases hlt
    have hlt1 : H1 lt = none := by
      rw [upd_ne n2.symm, upd_ne n3.symm] at hlt
      exact hlt
    refine ⟨_, rfl, d, C, dx, _, rfl, (by rw [upd_ne n2, upd_same]), T.cl, T.nT, (by show 1 < 1000; decide), ?_⟩
    have keep : ∀ a o, H a = some o → a ≠ d → (upd (upd (upd (upd H1 ls (.lst [.ref t])) d (.ins C dx (putF "_stands" (.ref ls) []))) lt (.lst [])) d (.ins C dx (pf ls lt))) a = some o := fun a o e nd => by
      have e1 := s1 _ _ e
      rw [upd_ne nd, upd_ne (ne_of_none e1 hlt1), upd_ne nd, upd_ne (ne_of_none e1 hls)]
      exact e1
    have tupk : TupZ (upd (upd (upd (upd H1 ls (.lst [.ref t])) d (.ins C dx (putF "_stands" (.ref ls) []))) lt (.lst [])) d (.ins C dx (pf ls lt))) t (s.map V.int) := by
      obtain ⟨o, od, q⟩ := hS
      exact ⟨o, od, keep _ _ q (ne_of q hd (by intro z; cases z))⟩
    refine k ls lt _ (s1.free hls) (s1.free hlt1) keep ⟨⟨dx, upd_same⟩, ⟨?_, fun p hp => ?_⟩, ⟨?_, fun p hp => (nomatch hp)⟩, n3, rfl, rfl, hg, .nil s⟩
    · rw [upd_ne n1.symm, upd_ne n3, upd_ne n1.symm, upd_same]
      rfl
    · have ep : p = (t, s) := by simpa using hp
      subst ep
      exact tupk
    · rw [upd_ne n2.symm, upd_same]
      rfl
abbrev s_Desk_heaps : Stmt := inClass (top 20) 1
theorem sc_Desk_heaps : FnScope ["self"] ["self"] (defScope s_Desk_heaps) := ⟨rfl, rfl, rfl, by decide +kernel, rfl, by decide +kernel, by decide +kernel⟩
theorem ok_Desk_heaps {f C : Addr} {fd : FuncData} (F : Fun K "heaps" "Desk.heaps" s_Desk_heaps f fd) (T : DskT K mg C) : FnOk P w K mg base CX0 1 f fd ["self"] (spDHeaps K C) := by
  refine F.ok sc_Desk_heaps (fun vs H Q E h => ?_) (fun cdv A outer s H vs Q E hr h => ?_)
  · obtain ⟨d, ls, lt, s, st, hs, ps, rfl, _⟩ := h
    rfl
  · obtain ⟨d, ls, lt, s, st, hs, ps, rfl, D, k⟩ := h
    refine ⟨_, (pss_one (ps_ret (pe_ix ix_list (pe_fld (pv 0) rfl) (pe_un un_neg pe_int) (fun _ _ => rfl)))), ?_⟩
    obtain ⟨dx, hd⟩ := D.ins
    obtain ⟨t, ht, hT⟩ := D.last
    exact ⟨_, rfl, d, C, dx, _, _, rfl, hd, T.cl, T.nS, pf_stands _ _, _, rfl, ls, _, _, _, rfl, rfl, SqL.of D.sl.ls, at_neg1 (by rw [List.getElem?_map, ht]; rfl) (by rw [List.length_map, D.hlen]), k t hT⟩
abbrev s_Desk_plan : Stmt := inClass (top 20) 2
theorem sc_Desk_plan : FnScope ["self"] ["self"] (defScope s_Desk_plan) := ⟨rfl, rfl, rfl, by decide +kernel, rfl, by decide +kernel, by decide +kernel⟩
theorem ok_Desk_plan {f C : Addr} {fd : FuncData} (F : Fun K "plan" "Desk.plan" s_Desk_plan f fd) (T : DskT K mg C) : FnOk P w K mg base CX0 1 f fd ["self"] (spPlan K C) := by
  refine F.ok sc_Desk_plan (fun vs H Q E h => ?_) (fun cdv A outer s H vs Q E hr h => ?_)
  · obtain ⟨d, ls, lt, s, st, hs, ps, rfl, _⟩ := h
    rfl
  · obtain ⟨d, ls, lt, s, st, hs, ps, rfl, D, k⟩ := h
    refine ⟨_, (pss_one (ps_ret (pe_callTy call_tuple_of (by rfl) T.tuple (by decide +kernel) (pa_cons (pe_fld (pv 0) rfl) pa_nil)))), ?_⟩
    obtain ⟨dx, hd⟩ := D.ins
    exact ⟨_, rfl, d, C, dx, _, _, rfl, hd, T.cl, T.nT, pf_steps _ _, lt, _, rfl, .inl ⟨SqL.of D.pl.ls, fun p hp => k p _ (Same.new hp) hp upd_same⟩⟩
abbrev s_Desk_move : Stmt := inClass (top 20) 3
theorem sc_Desk_move : FnScope ["self", "one", "other", "step", "stand"] ["self", "one", "other"] (defScope s_Desk_move) := ⟨rfl, rfl, rfl, by decide +kernel, rfl, by decide +kernel, by decide +kernel⟩
theorem ok_Desk_move {f C S FL : Addr} {fd : FuncData} (F : Fun K "move" "Desk.move" s_Desk_move f fd) (T : DskT K mg C) (mM : ∃ t, mg "MOST_STEPS" = some (.int 100 t)) (BF : NilX P K mg "Full" FL)
    (C_check_step : Cal P w K mg base (L2.CX P w) 3 "check_step" ["heaps", "step"] (spChkStep K S)) (C_behind : Cal P w K mg base CX0 2 "behind" ["heaps", "step"] (spBehindZ K)) : FnOk P w K mg base (L2.CX P w) 4 f fd ["self", "one", "other"] (spMove K C S FL) := by
  refine F.okX sc_Desk_move (fun vs H Q E h => ?_) (fun cdv A outer s H vs Q E hr h => ?_)
  · obtain ⟨d, ls, lt, s, st, hs, ps, x, y, dx, dy, rfl, _⟩ := h
    rfl
  · obtain ⟨d, ls, lt, s, st, hs, ps, x, y, dx, dy, rfl, D, hst, hx, hy, k1, k2, k3⟩ := h
    refine ⟨_, (pss_cons (ps_set (i := 3) sc_Desk_move.nd rfl (Or.inl rfl) (pe_tup (pa_cons (pv 1) (pa_cons (pv 2) pa_nil))))
      (pss_cons (ps_set (i := 4) sc_Desk_move.nd rfl (Or.inl rfl) (pe_ix ix_list (pe_fld (pv 0) rfl) (pe_un un_neg pe_int) (fun _ _ => rfl)))
      (pss_cons (ps_expr (pe_cal C_check_step hr rfl (passes_call (takes_of rfl rfl rfl rfl) (fun _ _ _ _ h => h)) (pa_cons (pv 4) (pa_cons (pv 3) pa_nil))))
      (pss_cons (ps_if (pt_cmpR op_ge (pe_callB call_len_seq (by rfl) T.len PySem.boot_len (pa_cons (pe_fld (pv 0) rfl) pa_nil)) (pe_gint rfl mM) (nomark _)) (pss_one (ps_raise rfl (takes_of rfl rfl rfl rfl) (pmk_nil BF (hr.mono (by decide : 1 ≤ 3)) rfl))) pss_nil)
      (pss_cons (ps_expr (pe_bm PySem.F.plainAttrs_list PySem.F.slot_list_append PySem.F.type_list_append mt_append (pe_fld (pv 0) rfl) (pa_cons (pe_cal C_behind hr rfl pass0 (pa_cons (pv 4) (pa_cons (pv 3) pa_nil))) pa_nil)))
      (pss_cons (ps_expr (pe_bm PySem.F.plainAttrs_list PySem.F.slot_list_append PySem.F.type_list_append mt_append (pe_fld (pv 0) rfl) (pa_cons (pv 3) pa_nil)))
      (pss_one (ps_ret (pe_ix ix_tup (pv 4) (pv 2) (fun _ _ => rfl)))))))))), ?_⟩
    obtain ⟨ddx, hd⟩ := D.ins
    obtain ⟨t, ht, hT⟩ := D.last
    refine ⟨_, rfl, _, rfl, by show 2 ≤ sizeLine; decide, fun u hu => ?_⟩
    have s1 : Same H (upd H u (.tup [x, y])) := Same.new hu
    have D1 := D.same s1
    refine ⟨_, rfl, d, C, ddx, _, _, rfl, s1 _ _ hd, T.cl, T.nS, pf_stands _ _, _, rfl, ls, _, _, _, rfl, rfl, SqL.of D1.sl.ls, at_neg1 (by rw [List.getElem?_map, ht]; rfl) (by rw [List.length_map, D.hlen]), ?_⟩
    have hU : SqT K (upd H u (.tup [x, y])) u [x, y] := SqT.of upd_same
    have T1 : SqT K _ t _ := Same.tup s1 hT.sq
    have hxy := dp_same s1 hx
    have hyy := dp_same s1 hy
    refine ⟨_, rfl, _, rfl, t, _, _, _, rfl, T1, .tup hU (.cons hxy (.cons hyy .nil)), fun hok => ?_, fun hno => k2 hno _ s1⟩
    refine ⟨_, rfl, d, C, ddx, _, _, rfl, s1 _ _ hd, T.cl, T.nT, pf_steps _ _, lt, _, rfl, .inl (SqL.of D1.pl.ls), _, _, rfl, rfl, _, rfl, ?_⟩
    rw [List.length_map, D.plen]
    by_cases hfull : 100 ≤ st.length
    · rw [decide_eq_true (show (100 : Int) ≤ (st.length : Int) by omega)]
      exact iteT (k3 hok hfull _ s1)
    rw [decide_eq_false (show ¬ (100 : Int) ≤ (st.length : Int) by omega)]
    refine iteF ?_
    have hroom : st.length < 100 := by omega
    obtain ⟨i, j, eij, hi, hj, hij, hc⟩ := stD_pr hok
    have exy : x = .int (i : Int) ∧ y = .int (j : Int) := by
      unfold dS at eij
      simp only [PyData.tuple.injEq, List.cons.injEq, and_true] at eij
      obtain ⟨rfl, rfl⟩ := eij
      cases hx
      cases hy
      exact ⟨rfl, rfl⟩
    obtain ⟨rfl, rfl⟩ := exy
    refine ⟨_, rfl, d, C, ddx, _, _, rfl, s1 _ _ hd, T.cl, T.nS, pf_stands _ _, .inl ⟨rfl, _, SqL.of D1.sl.ls⟩, _, rfl, _, rfl, t, u, fin s st, i, j, rfl, T1, hU, hi, hj, hij, fun e H2 s2 he he2 => ?_⟩
    have D2 := D1.same s2
    have hd2 := s2 _ _ (s1 _ _ hd)
    refine ⟨ls, _, _, rfl, rfl, D2.sl.ls, (by rw [List.length_map, D.hlen, sizeLine_eq]; omega), ?_⟩
    have ndl : d ≠ ls := ne_of hd2 D2.sl.ls (by intro z; cases z)
    have ndt : d ≠ lt := ne_of hd2 D2.pl.ls (by intro z; cases z)
    refine ⟨_, rfl, d, C, ddx, _, _, rfl, (by rw [upd_ne ndl]; exact hd2), T.cl, T.nT, pf_steps _ _, .inl ⟨rfl, _, SqL.of (by rw [upd_ne D.ne.symm]; exact D2.pl.ls)⟩, _, rfl, lt, _, _, rfl, rfl, (by rw [upd_ne D.ne.symm]; exact D2.pl.ls), (by rw [List.length_map, D.plen, sizeLine_eq]; omega), ?_⟩
    have s12 := s1.trans s2
    have c1 : Chg [ls, lt] H (upd H2 ls (.lst (hs.map (fun p => V.ref p.1) ++ [V.ref e]))) := (Chg.of s12).upd (by simp) (fun v hv => by rw [D2.sl.ls] at hv; cases hv; rfl)
    have c2 : Chg [ls, lt] H (upd (upd H2 ls (.lst (hs.map (fun p => V.ref p.1) ++ [V.ref e]))) lt (.lst (ps.map (fun p => V.ref p.1) ++ [V.ref u]))) := c1.upd (by simp) (fun v hv => by rw [upd_ne D.ne.symm, D2.pl.ls] at hv; cases hv; rfl)
    have c3 : Chg [ls, lt] H2 (upd (upd H2 ls (.lst (hs.map (fun p => V.ref p.1) ++ [V.ref e]))) lt (.lst (ps.map (fun p => V.ref p.1) ++ [V.ref u]))) := (Chg.refl.upd (by simp) (fun v hv => by rw [D2.sl.ls] at hv; cases hv; rfl)).upd (by simp) (fun v hv => by rw [upd_ne D.ne.symm, D2.pl.ls] at hv; cases hv; rfl)
    refine ⟨_, rfl, _, rfl, t, _, _, _, rfl, rfl, c3.tup (Same.tup s2 T1), at_of rfl (getD_at hj), ?_⟩
    refine k1 i j eij (by rw [fin_len] at hi; exact hi) (by rw [fin_len] at hj; exact hj) hij hc hroom e u _ c2 (s1.free he) hu ⟨⟨ddx, c2.keep _ _ hd (.inl rfl)⟩, ⟨?_, fun p hp => ?_⟩, ⟨?_, fun p hp => ?_⟩, D.ne, ?_, ?_, D.good, ?_⟩
    · rw [upd_ne D.ne, upd_same, List.map_append]
      rfl
    · rcases List.mem_append.mp hp with hp | hp
      · exact c2.tz (D.sl.st p hp)
      · have ep : p = (e, mv (fin s st) i j) := by simpa using hp
        subst ep
        exact c3.tz he2
    · rw [upd_same, List.map_append]
      rfl
    · rcases List.mem_append.mp hp with hp | hp
      · exact c2.st (D.pl.st p hp)
      · have ep : p = (u, i, j) := by simpa using hp
        subst ep
        rw [fin_len] at hi hj
        exact ⟨c3.tup (Same.tup s2 hU), hi, hj, hij⟩
    · rw [List.map_append, D.hs_, scan_snoc]
      rfl
    · rw [List.map_append, D.ps_]
      rfl
    · rw [fin_len] at hi hj
      exact D.can.snoc hi hj hij hc
abbrev s_Desk_empties : Stmt := inClass (top 20) 4
theorem sc_Desk_empties : FnScope ["self"] ["self"] (defScope s_Desk_empties) := ⟨rfl, rfl, rfl, by decide +kernel, rfl, by decide +kernel, by decide +kernel⟩
theorem ok_Desk_empties {f C : Addr} {fd : FuncData} (F : Fun K "empties" "Desk.empties" s_Desk_empties f fd) (T : DskT K mg C) : FnOk P w K mg base CX0 1 f fd ["self"] (spEmpties K C) := by
  refine F.ok sc_Desk_empties (fun vs H Q E h => ?_) (fun cdv A outer s H vs Q E hr h => ?_)
  · obtain ⟨d, ls, lt, s, st, hs, ps, rfl, _⟩ := h
    rfl
  · obtain ⟨d, ls, lt, s, st, hs, ps, rfl, D, k⟩ := h
    refine ⟨_, (pss_one (ps_ret (pe_bmT PySem.F.plainAttrs_tuple PySem.F.slot_tuple_count PySem.F.type_tuple_count mt_tcount (pe_ix ix_list (pe_fld (pv 0) rfl) (pe_un un_neg pe_int) (fun _ _ => rfl)) (pa_cons pe_int pa_nil)))), ?_⟩
    obtain ⟨dx, hd⟩ := D.ins
    obtain ⟨t, ht, hT⟩ := D.last
    exact ⟨_, rfl, d, C, dx, _, _, rfl, hd, T.cl, T.nS, pf_stands _ _, _, rfl, ls, _, _, _, rfl, rfl, SqL.of D.sl.ls, at_neg1 (by rw [List.getElem?_map, ht]; rfl) (by rw [List.length_map, D.hlen]), ⟨t, _, rfl, hT⟩, t, _, 0, rfl, rfl, hT.sq, k⟩
abbrev s_Desk_undo : Stmt := inClass (top 20) 5
theorem sc_Desk_undo : FnScope ["self"] ["self"] (defScope s_Desk_undo) := ⟨rfl, rfl, rfl, by decide +kernel, rfl, by decide +kernel, by decide +kernel⟩
theorem ok_Desk_undo {f C : Addr} {fd : FuncData} (F : Fun K "undo" "Desk.undo" s_Desk_undo f fd) (T : DskT K mg C) : FnOk P w K mg base CX0 1 f fd ["self"] (spUndo K C) := by
  refine F.ok sc_Desk_undo (fun vs H Q E h => ?_) (fun cdv A outer s H vs Q E hr h => ?_)
  · obtain ⟨d, ls, lt, s, st, hs, ps, rfl, _⟩ := h
    rfl
  · obtain ⟨d, ls, lt, s, st, hs, ps, rfl, D, k1, k2⟩ := h
    refine ⟨_, (pss_cons (ps_if (pt_cmpR op_eq (pe_callB call_len_seq (by rfl) T.len PySem.boot_len (pa_cons (pe_fld (pv 0) rfl) pa_nil)) pe_int (nomark _)) (pss_one (ps_ret pe_bl)) pss_nil)
      (pss_cons (ps_expr (pe_bm0 PySem.F.plainAttrs_list PySem.F.slot_list_pop PySem.F.type_list_pop mt_pop (pe_fld (pv 0) rfl)))
      (pss_cons (ps_expr (pe_bm0 PySem.F.plainAttrs_list PySem.F.slot_list_pop PySem.F.type_list_pop mt_pop (pe_fld (pv 0) rfl)))
      (pss_one (ps_ret pe_bl))))), ?_⟩
    obtain ⟨dx, hd⟩ := D.ins
    refine ⟨_, rfl, d, C, dx, _, _, rfl, hd, T.cl, T.nT, pf_steps _ _, lt, _, rfl, .inl (SqL.of D.pl.ls), rfl, _, rfl, ?_⟩
    rw [dec_int, List.length_map, D.plen]
    by_cases h0 : st = []
    · rw [decide_eq_true (by rw [h0]; rfl)]
      exact iteT (k1 h0)
    · have hl0 : 0 < st.length := List.length_pos_iff.mpr h0
      rw [decide_eq_false (by omega)]
      have hh := D.hlen
      have hp := D.plen
      obtain ⟨y1, e1⟩ : ∃ y, (hs.map fun p => V.ref p.1)[(hs.map fun p => V.ref p.1).length - 1]? = some y := ⟨_, List.getElem?_eq_getElem (by rw [List.length_map]; omega)⟩
      obtain ⟨y2, e2⟩ : ∃ y, (ps.map fun p => V.ref p.1)[(ps.map fun p => V.ref p.1).length - 1]? = some y := ⟨_, List.getElem?_eq_getElem (by rw [List.length_map]; omega)⟩
      have ndl : d ≠ ls := ne_of hd D.sl.ls (by intro z; cases z)
      refine iteF ⟨_, rfl, d, C, dx, _, _, rfl, hd, T.cl, T.nS, pf_stands _ _, .inl ⟨rfl, _, SqL.of D.sl.ls⟩, ls, _, _, rfl, rfl, D.sl.ls, e1, ?_⟩
      refine ⟨_, rfl, d, C, dx, _, _, rfl, (by rw [upd_ne ndl]; exact hd), T.cl, T.nT, pf_steps _ _, .inl ⟨rfl, _, SqL.of (by rw [upd_ne D.ne.symm]; exact D.pl.ls)⟩, lt, _, _, rfl, rfl, (by rw [upd_ne D.ne.symm]; exact D.pl.ls), e2, ?_⟩
      have c2 : Chg [ls, lt] H (upd (upd H ls (.lst (hs.map fun p => V.ref p.1).dropLast)) lt (.lst (ps.map fun p => V.ref p.1).dropLast)) := (Chg.refl.upd (by simp) (fun v hv => by rw [D.sl.ls] at hv; cases hv; rfl)).upd (by simp) (fun v hv => by rw [upd_ne D.ne.symm, D.pl.ls] at hv; cases hv; rfl)
      refine k2 h0 _ c2 ⟨⟨dx, c2.keep _ _ hd (.inl rfl)⟩, ⟨?_, fun p hp => c2.tz (D.sl.st p (List.dropLast_subset _ hp))⟩, ⟨?_, fun p hp => c2.st (D.pl.st p (List.dropLast_subset _ hp))⟩, D.ne, ?_, ?_, D.good, D.can.drop⟩
      · rw [upd_ne D.ne, upd_same, List.map_dropLast]
      · rw [upd_same, List.map_dropLast]
      · rw [List.map_dropLast, D.hs_, scan_drop s st h0]
      · rw [List.map_dropLast, D.ps_]
abbrev s_Desk___len__ : Stmt := inClass (top 20) 7
theorem sc_Desk___len__ : FnScope ["self"] ["self"] (defScope s_Desk___len__) := ⟨rfl, rfl, rfl, by decide +kernel, rfl, by decide +kernel, by decide +kernel⟩
theorem ok_Desk___len__ {f C : Addr} {fd : FuncData} (F : Fun K "__len__" "Desk.__len__" s_Desk___len__ f fd) (T : DskT K mg C) : FnOk P w K mg base CX0 1 f fd ["self"] (spDLen K C) := by
  refine F.ok sc_Desk___len__ (fun vs H Q E h => ?_) (fun cdv A outer s H vs Q E hr h => ?_)
  · obtain ⟨d, ls, lt, s, st, hs, ps, rfl, _⟩ := h
    rfl
  · obtain ⟨d, ls, lt, s, st, hs, ps, rfl, D, k⟩ := h
    refine ⟨_, (pss_one (ps_ret (pe_callB call_len_seq (by rfl) T.len PySem.boot_len (pa_cons (pe_fld (pv 0) rfl) pa_nil)))), ?_⟩
    obtain ⟨dx, hd⟩ := D.ins
    refine ⟨_, rfl, d, C, dx, _, _, rfl, hd, T.cl, T.nT, pf_steps _ _, lt, _, rfl, .inl (SqL.of D.pl.ls), ?_⟩
    rw [List.length_map, D.plen]
    exact k
end
end Hd
set_option maxHeartbeats 4000000
/-! A desk's copy. -/
namespace Hd
open PySem PySem.Spec PyProof.Rows L2
def spMoveG (K : PySem.W.Frag) (C : Addr) : Sp := fun vs H Q _ => ∃ (d ls lt : Addr) (s : List Int) (st : List (Nat × Nat)) (hs : List Hrow) (ps : List Srow) (i j : Nat), vs = [.ref d, .int (i : Int), .int (j : Int)] ∧ DeskAt K C H d ls lt s st hs ps ∧ st.length < 100 ∧ i < s.length ∧ j < s.length ∧ i ≠ j ∧ can (fin s st) i j = true ∧
  ∀ (e u : Addr) (H' : Hp), Chg [ls, lt] H H' → H e = none → H u = none → DeskAt K C H' d ls lt s (st ++ [(i, j)]) (hs ++ [(e, mv (fin s st) i j)]) (ps ++ [(u, i, j)]) → Q (.int ((fin s st).getD j 0)) H'
theorem move_good {K : PySem.W.Frag} {C S F : Addr} {vs : List V} {H : Hp} {Q : VK} {E : XK} (h : spMoveG K C vs H Q E) : spMove K C S F vs H Q E0 := by
  obtain ⟨d, ls, lt, s, st, hs, ps, i, j, rfl, D, h100, hi, hj, hij, hc, k⟩ := h
  have e0 : stD (fin s st) (.tuple [.int (i : Int), .int (j : Int)]) = true := by
    have := stD_dS (ns := fin s st) (i := i) (j := j)
    rw [hc, fin_len, decide_eq_true hi, decide_eq_true hj, decide_eq_true hij] at this
    exact this
  refine ⟨d, ls, lt, s, st, hs, ps, _, _, _, _, rfl, D, by omega, .int _, .int _, fun i' j' e _ _ _ _ _ => ?_, fun z => ?_, fun _ z => absurd z (by omega)⟩
  · unfold dS at e
    simp only [PyData.tuple.injEq, List.cons.injEq, PyData.int.injEq, and_true] at e
    obtain ⟨e1, e2⟩ := e
    have e1' : i = i' := by omega
    have e2' : j = j' := by omega
    subst e1' e2'
    exact k
  · rw [e0] at z
    cases z
section
variable {P : Program} {w : World} {K : PySem.W.Frag} {mg : Str → Option Value} {base : Heap}
abbrev s_Desk_copy : Stmt := inClass (top 20) 6
theorem sc_Desk_copy : FnScope ["self", "twin", "one", "other"] ["self"] (defScope s_Desk_copy) := ⟨rfl, rfl, rfl, by decide +kernel, rfl, by decide +kernel, by decide +kernel⟩
theorem ok_Desk_copy {f C : Addr} {fd : FuncData} (F : Fun K "copy" "Desk.copy" s_Desk_copy f fd) (T : DskT K mg C) (C_Desk : CalN P w K mg base CX0 4 C "Desk" ["self", "heaps"] (spInit K C)) (C_plan : CalP P w K mg base CX0 1 C "plan" ["self"] (spPlan K C))
    (C_move : CalM P w K mg base CX0 4 C "move" ["self", "one", "other"] (spMoveG K C)) : FnOk P w K mg base CX0 6 f fd ["self"] (spCopy K C) := by
  refine F.ok sc_Desk_copy (fun vs H Q E h => ?_) (fun cdv A outer s H vs Q E hr h => ?_)
  · obtain ⟨d, ls, lt, s, st, hs, ps, rfl, _⟩ := h
    rfl
  · obtain ⟨d, ls, lt, s, st, hs, ps, rfl, D, h100, k⟩ := h
    refine ⟨_, (pss_cons (ps_set (i := 1) sc_Desk_copy.nd rfl (Or.inl rfl) (pe_mak C_Desk hr rfl pass0 (pa_cons (pe_ix ix_list (pe_fld (pv 0) rfl) pe_int (fun _ _ => rfl)) pa_nil)))
      (pss_cons (ps_for PassesOwn.never rfl (pi_tup (pe_prp C_plan T.cl hr (pv 0))) (pg_tup rfl (pgs_cons (pg_name (i := 2) sc_Desk_copy.nd rfl (Or.inl rfl)) (pgs_cons (pg_name (i := 3) sc_Desk_copy.nd rfl (Or.inl rfl)) pgs_nil)))
      (pss_one (ps_expr (pe_mth C_move T.cl hr pass0 (pv 1) (pa_cons (pv 2) (pa_cons (pv 3) pa_nil))))))
      (pss_one (ps_ret (pv 1))))), ?_⟩
    obtain ⟨dx, hd⟩ := D.ins
    have e0 := scan_get s st (i := 0) (Nat.zero_le _)
    rw [← D.hs_, List.getElem?_map] at e0
    obtain ⟨p0, hp0, e1⟩ := Option.map_eq_some_iff.mp e0
    have Z0 := D.sl.st p0 (List.mem_of_getElem? hp0)
    have e2 : p0.2 = s := e1
    rw [e2] at Z0
    refine ⟨_, rfl, d, C, dx, _, _, rfl, hd, T.cl, T.nS, pf_stands _ _, ls, _, _, _, rfl, rfl, SqL.of D.sl.ls, at_of rfl (by rw [List.getElem?_map, hp0]; rfl), fun x ddx nx ndx nex => ?_⟩
    have s0 : Same H (upd (upd H ddx (.own x)) x (.ins C ddx [])) := fun b o e => by
      rw [upd_ne (ne_of_none e nx), upd_ne (ne_of_none e ndx)]
      exact e
    refine ⟨x, ddx, p0.1, s, rfl, upd_same, Z0.same s0, D.good, fun ls' lt' H2 n1 n2 kp D2 => ⟨rfl, ?_⟩⟩
    have nlx : ∀ {a : Addr}, (upd (upd H ddx (.own x)) x (.ins C ddx [])) a = none → H a = none := fun {a} z => s0.free z
    have s2 : Same H H2 := fun b o e => kp b o (s0 b o e) (ne_of_none e nx)
    have Dd := D.same s2
    refine ⟨_, rfl, d, dx, _, rfl, s2 _ _ hd, d, ls, lt, s, st, hs, ps, rfl, Dd, fun p H3 s3 hp hp3 => ?_⟩
    refine ⟨p, rfl, ⟨_, SqT.of hp3⟩, for_tup (K := K) (a := p) (xs := ps.map fun p => V.ref p.1) (fun i σ H4 => ∃ (hs' : List Hrow) (ps' : List Srow) (v1 v2 : Option V), σ = [some (.ref d), some (.ref x), v1, v2] ∧ Same H H4 ∧ SqT K H4 p (ps.map fun p => V.ref p.1) ∧ DeskAt K C H4 x ls' lt' s (st.take i) hs' ps')
      ⟨_, _, none, none, rfl, s2.trans s3, SqT.of hp3, D2.same s3⟩ (fun i σ H4 _ ⟨_, _, _, _, _, _, q, _⟩ => q) ?_ ?_⟩
    · rintro i y σ H4 hy ⟨hs', ps', v1, v2, rfl, s4, hP, D4⟩
      rw [List.getElem?_map] at hy
      obtain ⟨q, hq, rfl⟩ := Option.map_eq_some_iff.mp hy
      have hst : st[i]? = some q.2 := by
        rw [← D.ps_, List.getElem?_map, hq]
        rfl
      obtain ⟨hi, eq⟩ := List.getElem?_eq_some_iff.mp hst
      obtain ⟨q1, q2, q3, q4⟩ := D.pl.st q (List.mem_of_getElem? hq)
      obtain ⟨_, _, _, hc⟩ := D.can i hi
      rw [eq] at hc
      obtain ⟨ddx', hx4⟩ := D4.ins
      refine ⟨_, _, rfl, Same.tup s4 q1, rfl, _, _, rfl, _, _, rfl, rfl, ?_⟩
      refine ⟨_, rfl, x, ddx', _, rfl, hx4, pf_move _ _, _, rfl, _, rfl, x, ls', lt', s, st.take i, hs', ps', q.2.1, q.2.2, rfl, D4, by rw [List.length_take]; omega, q2, q3, q4, hc, fun e u H5 c5 _ _ D5 => ?_⟩
      have et : st.take (i + 1) = st.take i ++ [(q.2.1, q.2.2)] := by
        rw [List.take_add_one, hst]
        rfl
      rw [et]
      refine ⟨_, _, _, _, rfl, Same.chg s4 c5 (fun a ha => ?_), c5.tup hP, D5⟩
      rcases List.mem_cons.mp ha with rfl | ha
      · exact nlx n1
      · have := List.mem_singleton.mp ha
        subst this
        exact nlx n2
    · rintro σ H4 ⟨hs', ps', v1, v2, rfl, s4, hP, D4⟩
      rw [List.length_map, D.plen, List.take_length] at D4
      exact ⟨_, rfl, k x ls' lt' hs' ps' H4 s4 (nlx n1) (nlx n2) D4⟩
end
end Hd
set_option maxHeartbeats 4000000
/-! The law's rows beside a desk. -/
namespace Hd
open PySem PySem.Spec PyProof.Rows L2
/-- a plan at t: each step's tuple, its two numbers -/
structure PlanAt (K : PySem.W.Frag) (H : Hp) (t : Addr) (n : Nat) (ps : List Srow) : Prop where
  tp : SqT K H t (ps.map fun p => V.ref p.1)
  st : ∀ p ∈ ps, StAt K H n p
theorem PlanAt.chg {K : PySem.W.Frag} {H H' : Hp} {M : List Addr} {t : Addr} {n : Nat} {ps : List Srow} (c : Chg M H H') (h : PlanAt K H t n ps) : PlanAt K H' t n ps := ⟨c.tup h.tp, fun p hp => c.st (h.st p hp)⟩
theorem PlanAt.same {K : PySem.W.Frag} {H H' : Hp} {t : Addr} {n : Nat} {ps : List Srow} (e : Same H H') (h : PlanAt K H t n ps) : PlanAt K H' t n ps := h.chg (M := []) (.of e)
theorem dpall_P {K : PySem.W.Frag} {H : Hp} {n : Nat} : ∀ ps : List Srow, (∀ p ∈ ps, StAt K H n p) → DpAll K H (ps.map fun p => V.ref p.1) ((ps.map (·.2)).map dS)
  | [], _ => .nil
  | p :: ps, h => .cons (dp_S (h p (List.mem_cons_self ..)).1) (dpall_P ps fun q hq => h q (List.mem_cons_of_mem _ hq))
theorem PlanAt.dp {K : PySem.W.Frag} {H : Hp} {t : Addr} {n : Nat} {ps : List Srow} (h : PlanAt K H t n ps) : Dp K H (.ref t) (dP (ps.map (·.2))) := .tup h.tp (dpall_P ps h.st)
theorem PrL.dp {K : PySem.W.Frag} {H : Hp} {t : Addr} {n : Nat} {ps : List Srow} (h : PrL K H t n ps) : Dp K H (.ref t) (.list ((ps.map (·.2)).map dS)) := .lst (SqL.of h.ls) (dpall_P ps h.st)
/-- a row at a: heaps and a plan -/
def RowAt (K : PySem.W.Frag) (H : Hp) (n : Nat) (a : Addr) (ns : List Int) (st : List (Nat × Nat)) : Prop :=
  ∃ (t u : Addr) (ps : List Srow), SqT K H a [.ref t, .ref u] ∧ SqT K H t (ns.map V.int) ∧ PlanAt K H u n ps ∧ ps.map (·.2) = st
theorem RowAt.chg {K : PySem.W.Frag} {H H' : Hp} {M : List Addr} {n : Nat} {a : Addr} {ns : List Int} {st : List (Nat × Nat)} (c : Chg M H H') (h : RowAt K H n a ns st) : RowAt K H' n a ns st := by
  obtain ⟨t, u, ps, h1, h2, h3, h4⟩ := h
  exact ⟨t, u, ps, c.tup h1, c.tup h2, h3.chg c, h4⟩
/-- the law's rows at R -/
structure RowsAt (K : PySem.W.Frag) (H : Hp) (R : Addr) (s : List Int) (st : List (Nat × Nat)) (rows : List Addr) : Prop where
  ls : H R = some (.lst (rows.map V.ref))
  len : rows.length = st.length + 1
  at_ : ∀ i a, rows[i]? = some a → RowAt K H s.length a (fin s (st.take i)) (st.take i)
theorem RowsAt.chg {K : PySem.W.Frag} {H H' : Hp} {M : List Addr} {R : Addr} {s : List Int} {st : List (Nat × Nat)} {rows : List Addr} (h : RowsAt K H R s st rows) (c : Chg M H H') (n : R ∉ M) : RowsAt K H' R s st rows :=
  ⟨c.keep _ _ h.ls (.inr n), h.len, fun i a e => (h.at_ i a e).chg c⟩
theorem RowsAt.same {K : PySem.W.Frag} {H H' : Hp} {R : Addr} {s : List Int} {st : List (Nat × Nat)} {rows : List Addr} (h : RowsAt K H R s st rows) (e : Same H H') : RowsAt K H' R s st rows := h.chg (M := []) (.of e) (by simp)
theorem RowsAt.last {K : PySem.W.Frag} {H : Hp} {R : Addr} {s : List Int} {st : List (Nat × Nat)} {rows : List Addr} (h : RowsAt K H R s st rows) : ∃ a, (rows.map V.ref)[st.length]? = some (.ref a) ∧ RowAt K H s.length a (fin s st) st := by
  have hl := h.len
  obtain ⟨a, ha⟩ : ∃ a, rows[st.length]? = some a := ⟨_, List.getElem?_eq_getElem (by omega)⟩
  refine ⟨a, by rw [List.getElem?_map, ha]; rfl, ?_⟩
  have := h.at_ _ a ha
  rw [List.take_length] at this
  exact this
/-- all but the last, the first one never taken away -/
theorem RowsAt.cut {K : PySem.W.Frag} {H : Hp} {R p : Addr} {s : List Int} {st : List (Nat × Nat)} {rows : List Addr} (h : RowsAt K H R s st rows) (hp : H p = some (.lst ((rows.map V.ref).take (max 1 st.length)))) : RowsAt K H p s st.dropLast (rows.take (max 1 st.length)) := by
  have hl := h.len
  refine ⟨by rw [hp, List.map_take], ?_, fun i a e => ?_⟩
  · rw [List.length_take, List.length_dropLast, hl]
    omega
  · rw [List.getElem?_take] at e
    split at e
    · rename_i hi
      have := h.at_ i a e
      have e2 : st.dropLast.take i = st.take i := by
        rw [List.dropLast_eq_take, List.take_take]
        by_cases z : st = []
        · subst z
          simp
        · have : 0 < st.length := List.length_pos_iff.mpr z
          rw [Nat.min_eq_left (by omega)]
      rw [e2]
      exact this
    · cases e
/-- one more -/
theorem RowsAt.more {K : PySem.W.Frag} {H H' : Hp} {R a : Addr} {s : List Int} {st : List (Nat × Nat)} {rows : List Addr} {p : Nat × Nat} (h : RowsAt K H R s st rows) (c : Chg [R] H H') (hR : H' R = some (.lst (rows.map V.ref ++ [.ref a]))) (ha : RowAt K H' s.length a (fin s (st ++ [p])) (st ++ [p])) :
    RowsAt K H' R s (st ++ [p]) (rows ++ [a]) := by
  have hl := h.len
  refine ⟨by rw [hR, List.map_append]; rfl, by rw [List.length_append, List.length_append, hl]; rfl, fun i b e => ?_⟩
  by_cases hi : i < rows.length
  · rw [List.getElem?_append_left hi] at e
    rw [List.take_append_of_le_length (by omega)]
    exact (h.at_ i b e).chg c
  · rw [List.getElem?_append_right (by omega)] at e
    have e0 : i - rows.length = 0 := by
      cases q : i - rows.length with
      | zero => rfl
      | succ m =>
        rw [q] at e
        simp at e
    rw [e0] at e
    have eb : a = b := by simpa using e
    subst eb
    rw [List.take_of_length_le (by rw [List.length_append, List.length_singleton]; omega)]
    exact ha
/-! ### the promises -/
def spMoved (K : PySem.W.Frag) (C : Addr) : Sp := fun vs H Q _ => ∃ (d ls lt : Addr) (s : List Int) (st : List (Nat × Nat)) (hs : List Hrow) (ps : List Srow) (x y : V) (dx dy : PyData), vs = [.ref d, x, y] ∧ DeskAt K C H d ls lt s st hs ps ∧ st.length < 100 ∧ Dp K H x dx ∧ Dp K H y dy ∧
  (∀ i j : Nat, PyData.tuple [dx, dy] = dS (i, j) → i < s.length → j < s.length → i ≠ j → can (fin s st) i j = true → ∀ (e u : Addr) (H' : Hp), Chg [ls, lt] H H' → H e = none → H u = none → DeskAt K C H' d ls lt s (st ++ [(i, j)]) (hs ++ [(e, mv (fin s st) i j)]) (ps ++ [(u, i, j)]) → Q (.int ((fin s st).getD j 0)) H') ∧
  (stD (fin s st) (.tuple [dx, dy]) = false → ∀ H', Same H H' → Q .non H')
def t_moved (K : PySem.W.Frag) (C S F : Addr) : TS := fun D σ H => tRet (tMthS C "move" (spMove K C S F) (WE (wOnly K (.ref S) (fun _ _ _ => tRet (tC .non)) (fun _ _ _ _ => False) D)) (tVar 0) (tCons (tVar 1) (tCons (tVar 2) tNil))) D σ H
def spStands (K : PySem.W.Frag) (C : Addr) : Sp := fun vs H Q _ => ∃ (d ls lt R : Addr) (s : List Int) (st : List (Nat × Nat)) (hs : List Hrow) (ps : List Srow) (rows : List Addr), vs = [.ref d, .ref R] ∧ DeskAt K C H d ls lt s st hs ps ∧ RowsAt K H R s st rows ∧ st.length ≤ 1000 ∧ ∀ H', Same H H' → Q (.bl true) H'
section
variable {P : Program} {w : World} {K : PySem.W.Frag} {mg : Str → Option Value} {base : Heap}
abbrev s_l_moved : Stmt := top 28
theorem sc_l_moved : FnScope ["_law_desk", "_law_one", "_law_other"] ["_law_desk", "_law_one", "_law_other"] (defScope s_l_moved) := ⟨rfl, rfl, rfl, by decide +kernel, rfl, by decide +kernel, by decide +kernel⟩
theorem ok_l_moved {f C S FL : Addr} {fd : FuncData} (F : Fun K "_law_moved" "_law_moved" s_l_moved f fd) (T : DskT K mg C) (B : NilX P K mg "BadStep" S) (te : PySem.W.exmOne K (.ref S) (.ref S) = some true)
    (C_move : CalM P w K mg base (L2.CX P w) 4 C "move" ["self", "one", "other"] (spMove K C S FL)) : FnOk P w K mg base CX0 6 f fd ["_law_desk", "_law_one", "_law_other"] (spMoved K C) := by
  refine F.ok sc_l_moved (fun vs H Q E h => ?_) (fun cdv A outer s H vs Q E hr h => ?_)
  · obtain ⟨d, ls, lt, s, st, hs, ps, x, y, dx, dy, rfl, _⟩ := h
    rfl
  · obtain ⟨d, ls, lt, s, st, hs, ps, x, y, dx, dy, rfl, D, h100, hx, hy, k1, k2⟩ := h
    refine ⟨t_moved K C S FL, ?_, ?_⟩
    · exact pss_one (ps_try_only (tb := fun W => tRet (tMthS C "move" (spMove K C S FL) (WE W) (tVar 0) (tCons (tVar 1) (tCons (tVar 2) tNil)))) (ts := fun a cls d => tRet (tC .non)) (Wout := fun _ _ _ _ => False) rfl rfl ⟨rfl, by decide, Or.inl B.gC⟩ takes0
        (fun W pn xe tk _ => pss_one (ps_ret (by exact (pe_mthS C_move T.cl hr (fun σ => passAt tk σ) (pv 0) (by exact (pa_cons (pv 1) (pa_cons (pv 2) pa_nil)))))))
        (fun a oe cls d pn hz hf => pss_one (ps_ret pe_non)))
    obtain ⟨ddx, hd⟩ := D.ins
    refine ⟨_, rfl, d, ddx, _, rfl, hd, pf_move _ _, _, rfl, _, rfl, d, ls, lt, s, st, hs, ps, x, y, dx, dy, rfl, D, by omega, hx, hy, fun i j e hi hj hij hc _ => k1 i j e hi hj hij hc, fun hc H' s1 => ?_, fun _ z => absurd z (by omega)⟩
    refine ⟨true, te, fun _ a ha => ?_, fun q => nomatch q⟩
    exact k2 hc H' s1
abbrev s_l_stands : Stmt := top 29
theorem sc_l_stands : FnScope ["_law_desk", "_law_rows", "_law_heaps_here", "_law_plan", "_law_x"] ["_law_desk", "_law_rows"] (defScope s_l_stands) := ⟨rfl, rfl, rfl, by decide +kernel, rfl, by decide +kernel, by decide +kernel⟩
theorem ok_l_stands {f C : Addr} {fd : FuncData} (F : Fun K "_law_stands" "_law_stands" s_l_stands f fd) (T : DskT K mg C) (C_heaps : CalP P w K mg base CX0 1 C "heaps" ["self"] (spDHeaps K C)) (C_plan : CalP P w K mg base CX0 1 C "plan" ["self"] (spPlan K C))
    (C_empties : CalM P w K mg base CX0 1 C "empties" ["self"] (spEmpties K C)) (C_len : CalM P w K mg base CX0 1 C "__len__" ["self"] (spDLen K C)) : FnOk P w K mg base CX0 6 f fd ["_law_desk", "_law_rows"] (spStands K C) := by
  refine F.ok sc_l_stands (fun vs H Q E h => ?_) (fun cdv A outer s H vs Q E hr h => ?_)
  · obtain ⟨d, ls, lt, R, s, st, hs, ps, rows, rfl, _⟩ := h
    rfl
  · obtain ⟨d, ls, lt, R, s, st, hs, ps, rows, rfl, D, W, h1000, k⟩ := h
    refine ⟨_, (pss_cons (ps_asg (pe_ix ix_list (pv 1) (pe_un un_neg pe_int) (fun _ _ => rfl)) (pg_tup rfl (pgs_cons (pg_name (i := 2) sc_l_stands.nd rfl (Or.inl rfl)) (pgs_cons (pg_name (i := 3) sc_l_stands.nd rfl (Or.inl rfl)) pgs_nil))))
      (pss_cons (ps_if (PW.pt (pw_or (pt_cmpR (op_neD hr.units) (pe_prp C_heaps T.cl hr (pv 0)) (pv 2) (nomark _)) (pw_or (pt_cmpR (op_neD hr.units) (pe_prp C_plan T.cl hr (pv 0)) (pv 3) (nomark _)) (pw_or1 (pt_cmpR op_ne (pe_callB (call_lenO C_len hr) (by rfl) T.len PySem.boot_len (pa_cons (pv 0) pa_nil)) (pe_callB call_len_seq (by rfl) T.len PySem.boot_len (pa_cons (pv 3) pa_nil)) (nomark _)))))) (pss_one (ps_ret pe_bl)) pss_nil)
      (pss_one (ps_ret (pe_cmpR op_eq (pe_mth0 C_empties T.cl hr pass0 (pv 0)) (pe_callB call_len_seq (by rfl) T.len PySem.boot_len (pa_cons (pe_lc (own := [("_law_x", 4)]) (g := gName 4) (by rfl) sc_l_stands.nd (pi_tup (pv 2)) (blkOk_by (own := [("_law_x", 4)]) (N := ["_law_desk", "_law_rows", "_law_heaps_here", "_law_plan", "_law_x"]) (sc := defScope s_l_stands) (by decide +kernel)) (fun _ _ _ _ _ => pg_name (i := 4) sc_l_stands.nd rfl (Or.inl rfl)) (fun _ _ _ _ _ => pts_one (pt_cmpR op_eq (pv 4) pe_int (nomark _))) (fun _ _ _ _ _ => (pv 4))) pa_nil)) (nomark _)))))), ?_⟩
    obtain ⟨a, ha, t, u, qs, r1, r2, r3, r4⟩ := W.last
    have hrl : st.length + 1 = (rows.map V.ref).length := by rw [List.length_map, W.len]
    refine ⟨_, rfl, _, rfl, R, _, _, _, rfl, rfl, SqL.of W.ls, at_neg1 ha hrl, _, _, rfl, r1, rfl, _, _, rfl, _, _, rfl, rfl, ?_⟩
    obtain ⟨dx, hd⟩ := D.ins
    refine ⟨_, rfl, d, dx, _, rfl, hd, d, ls, lt, s, st, hs, ps, rfl, D, fun t' ht' => ?_⟩
    refine ⟨_, rfl, dI (fin s st), dI (fin s st), dp_I ht'.sq, dp_I r2, dI_ok _, dI_ok _, _, rfl, ?_⟩
    rw [dI_eqv, decide_eq_true rfl]
    refine iteF ⟨_, rfl, d, dx, _, rfl, hd, d, ls, lt, s, st, hs, ps, rfl, D, fun p H1 s1 hp hp1 => ?_⟩
    have D1 := D.same s1
    have P1 : PlanAt K H1 p s.length ps := ⟨SqT.of hp1, D1.pl.st⟩
    refine ⟨_, rfl, dP st, dP st, by rw [← D.ps_]; exact P1.dp, by rw [← r4]; exact (r3.same s1).dp, dP_ok _, dP_ok _, _, rfl, ?_⟩
    rw [dP_eqv, decide_eq_true rfl]
    refine iteF ⟨_, rfl, d, dx, _, rfl, s1 _ _ hd, d, ls, lt, s, st, hs, ps, rfl, D1, _, rfl, by omega, by omega, ?_⟩
    refine ⟨_, rfl, u, _, rfl, .inr (r3.same s1).tp, rfl, _, rfl, ?_⟩
    have el : qs.length = st.length := by rw [← r4, List.length_map]
    rw [dec_int, List.length_map, el, decide_eq_true rfl]
    refine iteF ⟨_, rfl, d, dx, _, rfl, s1 _ _ hd, pf_empties _ _, d, ls, lt, s, st, hs, ps, rfl, D1, ?_⟩
    have r2' := Same.tup s1 r2
    have hsl : (fin s st).length ≤ 6 := by
      rw [fin_len]
      exact (hps_len D.good).2
    refine ⟨_, rfl, t, rfl, ⟨_, r2'⟩, fun DD hDD => lc_tup (K := K) (a := t) (xs := (fin s st).map V.int) (fun i H2 => H2 DD = some (.lst ((((fin s st).take i).filter fun x => x == 0).map V.int)) ∧ Same H1 H2) ⟨upd_same, Same.new hDD⟩ (fun i H2 _ q => Same.tup q.2 r2') ?_ ?_⟩
    · rintro i x H2 hi ⟨hL, s2⟩
      obtain ⟨z, hz, rfl⟩ := int_at hi
      refine ⟨rfl, _, rfl, rfl, _, rfl, ?_⟩
      rw [dec_int]
      have nx := filter_take (p := fun x : Int => x == 0) hz
      by_cases h0 : z = 0
      · subst h0
        rw [decide_eq_true rfl]
        refine iteT ⟨_, rfl, _, hL, ?_, ?_, same_upd s2 hDD⟩
        · rw [List.length_map, sizeLine_eq]
          have := List.length_filter_le (fun x => x == 0) ((fin s st).take i)
          rw [List.length_take] at this
          omega
        · rw [upd_same, nx, if_pos (beq_self_eq_true _), List.map_append]
          rfl
      · rw [decide_eq_false h0]
        refine iteF ⟨?_, s2⟩
        rw [nx, if_neg (by simpa using h0), List.append_nil]
        exact hL
    · rintro H2 ⟨hL, s2⟩
      rw [List.length_map, List.take_length] at hL
      refine ⟨DD, _, rfl, .inl (SqL.of hL), rfl, ?_⟩
      have e : decide (V.int ((((fin s st).count 0 : Nat) : Int)) = V.int ((((((fin s st).filter fun x => x == 0).map V.int).length : Nat) : Int))) = true := by
        rw [dec_int, List.length_map]
        refine decide_eq_true ?_
        rw [List.count_eq_countP, List.countP_eq_length_filter]
      show Q (V.bl (decide _)) _
      rw [e]
      exact k _ (s1.trans s2)
end
end Hd
set_option maxHeartbeats 8000000
/-! The law: a desk that is led. -/
namespace Hd
open PySem PySem.Spec PyProof.Rows L2
theorem heaps_good {ns : List Int} (h : HeapsOk 2 6 ns) : hpsB ns = true := by
  obtain ⟨n, hn, hp⟩ := h.pos
  have : n ≤ ns.sum := by
    obtain ⟨k, hk, e⟩ := List.mem_iff_getElem.mp hn
    have := sum_one (i := k) (nn_of h.ge)
    rw [List.getD_eq_getElem?_getD, List.getElem?_eq_getElem hk] at this
    rw [← e]
    exact this
  unfold hpsB
  simp only [Bool.and_eq_true, decide_eq_true_eq, List.all_eq_true, List.mem_map]
  refine ⟨⟨h.lo, h.hi⟩, fun x ⟨y, hy, e⟩ => ?_, by omega⟩
  subst e
  unfold inR
  simp only [id, Bool.and_eq_true, decide_eq_true_eq]
  exact ⟨h.ge y hy, h.le y hy⟩
/-- all that holds between two turns -/
structure LI (K : PySem.W.Frag) (C : Addr) (H : Hp) (h c : Addr) (s : List Int) (i : Nat) (d ls lt : Addr) (st : List (Nat × Nat)) (hs : List Hrow) (ps : List Srow) (R : Addr) (rows : List Addr) (d' ls' lt' : Addr) (st' : List (Nat × Nat)) (hs' : List Hrow) (ps' : List Srow) (O : Addr) (olds : List Addr) : Prop where
  dr : DrawAt H h c
  D : DeskAt K C H d ls lt s st hs ps
  W : RowsAt K H R s st rows
  D' : DeskAt K C H d' ls' lt' s st' hs' ps'
  W' : RowsAt K H O s st' olds
  n1 : h ≠ ls ∧ h ≠ lt ∧ h ≠ R ∧ h ≠ ls' ∧ h ≠ lt' ∧ h ≠ O
  n2 : c ≠ ls ∧ c ≠ lt ∧ c ≠ R ∧ c ≠ ls' ∧ c ≠ lt' ∧ c ≠ O
  n3 : ls ≠ R ∧ ls ≠ ls' ∧ ls ≠ lt' ∧ ls ≠ O
  n4 : lt ≠ R ∧ lt ≠ ls' ∧ lt ≠ lt' ∧ lt ≠ O
  n5 : R ≠ ls' ∧ R ≠ lt' ∧ R ≠ O
  n6 : ls' ≠ O ∧ lt' ≠ O
  b : st.length ≤ i
  b' : st'.length ≤ i
theorem not2 {x a b : Addr} (h1 : a ≠ x) (h2 : b ≠ x) : x ∉ [a, b] := by
  rw [List.mem_cons, List.mem_singleton]
  exact fun z => z.elim (fun q => h1 q.symm) fun q => h2 q.symm
theorem not1 {x a : Addr} (h1 : a ≠ x) : x ∉ [a] := by
  rw [List.mem_singleton]
  exact fun q => h1 q.symm
section
variable {K : PySem.W.Frag} {C : Addr} {H H' : Hp} {h c : Addr} {s : List Int} {i : Nat} {d ls lt : Addr} {st : List (Nat × Nat)} {hs : List Hrow} {ps : List Srow} {R : Addr} {rows : List Addr} {d' ls' lt' : Addr} {st' : List (Nat × Nat)} {hs' : List Hrow} {ps' : List Srow} {O : Addr} {olds : List Addr}
theorem LI.same (L : LI K C H h c s i d ls lt st hs ps R rows d' ls' lt' st' hs' ps' O olds) (e : Same H H') : LI K C H' h c s i d ls lt st hs ps R rows d' ls' lt' st' hs' ps' O olds :=
  ⟨L.dr.same e, L.D.same e, L.W.same e, L.D'.same e, L.W'.same e, L.n1, L.n2, L.n3, L.n4, L.n5, L.n6, L.b, L.b'⟩
theorem LI.draw (L : LI K C H h c s i d ls lt st hs ps R rows d' ls' lt' st' hs' ps' O olds) (k : Kept h c H H') (dr : DrawAt H' h c) : LI K C H' h c s i d ls lt st hs ps R rows d' ls' lt' st' hs' ps' O olds := by
  have g := k.chg L.dr dr
  obtain ⟨a1, a2, a3, a4, a5, a6⟩ := L.n1
  obtain ⟨b1, b2, b3, b4, b5, b6⟩ := L.n2
  exact ⟨dr, L.D.chg g (not2 a1 b1) (not2 a2 b2), L.W.chg g (not2 a3 b3), L.D'.chg g (not2 a4 b4) (not2 a5 b5), L.W'.chg g (not2 a6 b6), L.n1, L.n2, L.n3, L.n4, L.n5, L.n6, L.b, L.b'⟩
theorem LI.up (L : LI K C H h c s i d ls lt st hs ps R rows d' ls' lt' st' hs' ps' O olds) : LI K C H h c s (i + 1) d ls lt st hs ps R rows d' ls' lt' st' hs' ps' O olds :=
  ⟨L.dr, L.D, L.W, L.D', L.W', L.n1, L.n2, L.n3, L.n4, L.n5, L.n6, Nat.le_succ_of_le L.b, Nat.le_succ_of_le L.b'⟩
/-- the desk has changed, the rows are others -/
theorem LI.turn {st2 : List (Nat × Nat)} {hs2 : List Hrow} {ps2 : List Srow} {R2 : Addr} {rows2 : List Addr} (L : LI K C H h c s i d ls lt st hs ps R rows d' ls' lt' st' hs' ps' O olds) (g : Chg [ls, lt, R] H H') (D2 : DeskAt K C H' d ls lt s st2 hs2 ps2) (W2 : RowsAt K H' R2 s st2 rows2)
    (hR : R2 = R ∨ H R2 = none ) (hb : st2.length ≤ i + 1) : LI K C H' h c s (i + 1) d ls lt st2 hs2 ps2 R2 rows2 d' ls' lt' st' hs' ps' O olds := by
  obtain ⟨a1, a2, a3, a4, a5, a6⟩ := L.n1
  obtain ⟨b1, b2, b3, b4, b5, b6⟩ := L.n2
  obtain ⟨c1, c2, c3, c4⟩ := L.n3
  obtain ⟨d1, d2, d3, d4⟩ := L.n4
  obtain ⟨e1, e2, e3⟩ := L.n5
  have not3 : ∀ {x : Addr}, ls ≠ x → lt ≠ x → R ≠ x → x ∉ [ls, lt, R] := fun {x} z1 z2 z3 => by
    simp only [List.mem_cons, List.not_mem_nil, or_false, not_or]
    exact ⟨Ne.symm z1, Ne.symm z2, Ne.symm z3⟩
  have far : ∀ {x : Addr} {o : HO}, H x = some o → x ≠ R → x ≠ R2 := fun {x o} hx n => by
    rcases hR with z | z
    · rw [z]
      exact n
    · exact ne_of_none hx z
  obtain ⟨⟨_, _, _, h1, h2, _⟩, _⟩ := L.dr
  refine ⟨L.dr.chg g (not3 a1.symm a2.symm a3.symm) (not3 b1.symm b2.symm b3.symm), D2, W2, L.D'.chg g (not3 c2 d2 e1) (not3 c3 d3 e2), L.W'.chg g (not3 c4 d4 e3), ⟨a1, a2, far h1 a3, a4, a5, a6⟩, ⟨b1, b2, far h2 b3, b4, b5, b6⟩, ⟨far L.D.sl.ls c1, c2, c3, c4⟩, ⟨far L.D.pl.ls d1, d2, d3, d4⟩, ⟨(far L.D'.sl.ls e1.symm).symm, (far L.D'.pl.ls e2.symm).symm, (far L.W'.ls e3.symm).symm⟩, L.n6, hb, Nat.le_succ_of_le L.b'⟩
/-- a copy is kept -/
theorem LI.keep {d2 ls2 lt2 O2 : Addr} {hs2 : List Hrow} {ps2 : List Srow} (L : LI K C H h c s i d ls lt st hs ps R rows d' ls' lt' st' hs' ps' O olds) (e : Same H H') (D2 : DeskAt K C H' d2 ls2 lt2 s st hs2 ps2) (W2 : RowsAt K H' O2 s st rows) (z1 : H ls2 = none) (z2 : H lt2 = none) (z3 : H O2 = none) (z4 : ls2 ≠ O2) (z5 : lt2 ≠ O2) :
    LI K C H' h c s i d ls lt st hs ps R rows d2 ls2 lt2 st hs2 ps2 O2 rows := by
  obtain ⟨⟨_, _, _, h1, h2, _⟩, _⟩ := L.dr
  obtain ⟨a1, a2, a3, a4, a5, a6⟩ := L.n1
  obtain ⟨b1, b2, b3, b4, b5, b6⟩ := L.n2
  have f : ∀ {x : Addr} {o : HO}, H x = some o → x ≠ ls2 ∧ x ≠ lt2 ∧ x ≠ O2 := fun hx => ⟨ne_of_none hx z1, ne_of_none hx z2, ne_of_none hx z3⟩
  exact ⟨L.dr.same e, L.D.same e, L.W.same e, D2, W2, ⟨a1, a2, a3, f h1⟩, ⟨b1, b2, b3, f h2⟩, ⟨L.n3.1, f L.D.sl.ls⟩, ⟨L.n4.1, f L.D.pl.ls⟩, f L.W.ls, ⟨z4, z5⟩, L.b, L.b⟩
end
/-- the names and what holds, between two turns -/
def SI (K : PySem.W.Frag) (C a h c t0 d ls lt : Addr) (s : List Int) (i : Nat) (σ : L2.St) (H : Hp) : Prop :=
  ∃ (st : List (Nat × Nat)) (hs : List Hrow) (ps : List Srow) (R : Addr) (rows : List Addr) (d' ls' lt' : Addr) (st' : List (Nat × Nat)) (hs' : List Hrow) (ps' : List Srow) (O : Addr) (olds : List Addr) (v8 v9 v10 v11 v12 v13 v14 v15 v16 : Option V),
    σ = [some (.ref a), some (.ref h), some (.ref t0), some (.int ((s.map V.int).length : Int)), some (.ref d), some (.ref R), some (.ref d'), some (.ref O), v8, v9, v10, v11, v12, v13, v14, v15, v16] ∧ LI K C H h c s i d ls lt st hs ps R rows d' ls' lt' st' hs' ps' O olds
theorem bad7 {K : PySem.W.Frag} {n : Nat} {i : Int} {tp : Addr} (hn : 2 ≤ n) (h0 : 0 ≤ i) (h7 : i < 7) : ∃ v, atI [V.non, V.bl true, V.int (-1), V.int (n : Int), V.str "0", V.ref tp, V.int 0] i = some v ∧
    ∀ H : Hp, H tp = some (.tup [.int 0]) → ∃ dv, Dp K H v dv ∧ ∀ m : List Int, m.length = n → stD m (.tuple [.int 0, dv]) = false ∧ stD m (.tuple [dv, .int 0]) = false := by
  have no : ∀ {dv : PyData}, (∀ g, isIntD 0 g dv = false ∨ intD dv = 0) → ∀ m : List Int, stD m (.tuple [.int 0, dv]) = false ∧ stD m (.tuple [dv, .int 0]) = false := fun {dv} hd m => by
    have h1 : prD m.length (.tuple [.int 0, dv]) = false := by
      unfold prD
      simp only
      rcases hd ((m.length : Int) - 1) with z | z
      · rw [z, Bool.false_and, Bool.and_false]
      · rw [z]
        simp [intD]
    have h2 : prD m.length (.tuple [dv, .int 0]) = false := by
      unfold prD
      simp only
      rcases hd ((m.length : Int) - 1) with z | z
      · rw [z, Bool.false_and]
      · rw [z]
        simp [intD]
    exact ⟨stD_nopr h1, stD_nopr h2⟩
  have : i = 0 ∨ i = 1 ∨ i = 2 ∨ i = 3 ∨ i = 4 ∨ i = 5 ∨ i = 6 := by omega
  rcases this with e | e | e | e | e | e | e <;> subst e
  · exact ⟨_, rfl, fun H hH => ⟨_, .non, fun m _ => no (fun g => .inl rfl) m⟩⟩
  · exact ⟨_, rfl, fun H hH => ⟨_, .bl _, fun m _ => no (fun g => .inl rfl) m⟩⟩
  · exact ⟨_, rfl, fun H hH => ⟨_, .int _, fun m _ => no (fun g => .inl (by show (decide ((0 : Int) ≤ -1) && decide ((-1 : Int) ≤ g)) = false; rw [decide_eq_false (show ¬ (0 : Int) ≤ -1 by decide)]; rfl)) m⟩⟩
  · refine ⟨_, rfl, fun H hH => ⟨_, .int _, fun m hm => ?_⟩⟩
    have z : isIntD 0 ((m.length : Int) - 1) (.int (n : Int)) = false := by
      unfold isIntD inR
      simp only
      rw [decide_eq_false (show ¬ (n : Int) ≤ (m.length : Int) - 1 by omega), Bool.and_false]
    refine ⟨stD_nopr ?_, stD_nopr ?_⟩
    · unfold prD
      simp only
      rw [z, Bool.false_and, Bool.and_false]
    · unfold prD
      simp only
      rw [z, Bool.false_and]
  · exact ⟨_, rfl, fun H hH => ⟨_, .str _, fun m _ => no (fun g => .inl rfl) m⟩⟩
  · exact ⟨_, rfl, fun H hH => ⟨.tuple [.int 0], .tup (SqT.of hH) (.cons (.int _) .nil), fun m _ => no (fun g => .inl rfl) m⟩⟩
  · exact ⟨_, rfl, fun H hH => ⟨_, .int _, fun m _ => no (fun g => .inr rfl) m⟩⟩
theorem no_step {m : List Int} {d : PyData} {i j : Nat} {A : Prop} (h : stD m d = false) (e : d = dS (i, j)) (hi : i < m.length) (hj : j < m.length) (hij : i ≠ j) (hc : can m i j = true) : A := by
  rw [e, stD_dS, decide_eq_true hi, decide_eq_true hj, decide_eq_true hij, hc] at h
  cases h
theorem PrL.chg {K : PySem.W.Frag} {H H' : Hp} {M : List Addr} {l : Addr} {n : Nat} {ps : List Srow} (h : PrL K H l n ps) (c : Chg M H H') (n1 : l ∉ M) : PrL K H' l n ps := ⟨c.keep _ _ h.ls (.inr n1), fun p hp => c.st (h.st p hp)⟩
theorem any_dS (l : List (Nat × Nat)) (p : Nat × Nat) : ((l.map dS).any fun z => PyData.eqv z (dS p)) = decide (p ∈ l) := by
  induction l with
  | nil => rfl
  | cons q l ih =>
    rw [List.map_cons, List.any_cons, ih, dS_eqv]
    by_cases h1 : q = p
    · subst h1
      rw [decide_eq_true rfl, decide_eq_true (List.mem_cons_self ..)]
      rfl
    · rw [decide_eq_false h1]
      by_cases h2 : p ∈ l
      · rw [decide_eq_true h2, decide_eq_true (List.mem_cons_of_mem _ h2)]
        rfl
      · rw [decide_eq_false h2, decide_eq_false (fun z => (List.mem_cons.mp z).elim (fun q' => h1 q'.symm) h2)]
        rfl
theorem steps_ok (l : List (Nat × Nat)) : SeqAt.shaped (.list (l.map dS)) = true := shaped_mk (by have := lay_all dS dS_lay l; simp [PyData.canLay0, this]) (by have := deep_all dS 1 dS_deep l; simp [PyData.depth]; omega)
theorem list_nil (l : List (Nat × Nat)) : PyData.eqv (.list (l.map dS)) (.list []) = l.isEmpty := by
  cases l with
  | nil => simp [PyData.eqv, PyData.eqvAll]
  | cons q qs => simp [PyData.eqv, PyData.eqvAll]
theorem ne_bl {x y : Bool} (h : x = y) : (!decide (V.bl x = V.bl y)) = false := by
  subst h
  rw [decide_eq_true rfl]
  rfl
theorem cut_rows {xs : List V} {n : Nat} (h : xs.length = n + 1) : cutV xs none (some (if (xs.length : Int) - 1 > 1 then (xs.length : Int) - 1 else 1)) = xs.take (max 1 n) := by
  have e : (if (xs.length : Int) - 1 > 1 then (xs.length : Int) - 1 else 1) = ((max 1 n : Nat) : Int) := by
    split <;> omega
  rw [e]
  unfold cutV
  rw [HT.sIx_none, HT.sIx_nat, List.drop_zero, Nat.sub_zero, Nat.min_eq_left (by omega)]
def spLaw (K : PySem.W.Frag) : Sp := fun vs H Q _ => ∃ (a : Addr) (ns : List Int), vs = [.ref a] ∧ SqL K H a (ns.map V.int) ∧ ns.length ≤ 63 ∧ ∀ H', Q (.bl true) H'
section
variable {P : Program} {w : World} {K : PySem.W.Frag} {mg : Str → Option Value} {base : Heap}
abbrev s_law : Stmt := top 30
theorem sc_law : FnScope ["_law_script", "_law_h", "_law_heaps_here", "_law_size", "_law_desk", "_law_rows", "_law_kept", "_law_olds", "_law_turn", "_law_kind", "_law_here", "_law_plan", "_law_bad", "_law_step", "_law_fine", "_law_told", "_law_one"] ["_law_script"] (defScope s_law) := ⟨rfl, rfl, rfl, by decide +kernel, rfl, by decide +kernel, by decide +kernel⟩
theorem ok_law {f C : Addr} {fd : FuncData} (F : Fun K "law" "law" s_law f fd) (T : DskT K mg C) (C_l_mix : Cal P w K mg base CX0 1 "_law_mix" ["_law_script", "_law_seed"] (spMix K)) (C_l_next : Cal P w K mg base CX0 1 "_law_next" ["_law_h", "_law_bound"] spNext) (C_l_heaps : Cal P w K mg base CX0 2 "_law_heaps" ["_law_h", "_law_least", "_law_most"] spHeaps)
    (C_l_can : Cal P w K mg base CX0 1 "_law_can" ["_law_heaps_here", "_law_step"] (spCan K)) (C_l_behind : Cal P w K mg base CX0 1 "_law_behind" ["_law_heaps_here", "_law_step"] (spBehind K)) (C_l_pairs : Cal P w K mg base CX0 1 "_law_pairs" ["_law_size"] (spPairs K))
    (C_l_moved : Cal P w K mg base CX0 6 "_law_moved" ["_law_desk", "_law_one", "_law_other"] (spMoved K C)) (C_l_stands : Cal P w K mg base CX0 6 "_law_stands" ["_law_desk", "_law_rows"] (spStands K C)) (C_Desk : CalN P w K mg base CX0 4 C "Desk" ["self", "heaps"] (spInit K C))
    (C_undo : CalM P w K mg base CX0 1 C "undo" ["self"] (spUndo K C)) (C_copy : CalM P w K mg base CX0 6 C "copy" ["self"] (spCopy K C)) : FnOk P w K mg base CX0 8 f fd ["_law_script"] (spLaw K) := by
  refine F.ok sc_law (fun vs H Q E h => ?_) (fun cdv A outer s0 H vs Q E hr h => ?_)
  · obtain ⟨a, ns, rfl, _⟩ := h
    rfl
  · obtain ⟨a, ns, rfl, hS, hlen, k⟩ := h
    have hu65 := units65 hr
    refine ⟨_, (pss_cons (ps_set (i := 1) sc_law.nd rfl (Or.inl rfl) (pe_cal C_l_mix hr rfl pass0 (pa_cons (pv 0) (pa_cons pe_int pa_nil))))
      (pss_cons (ps_set (i := 2) sc_law.nd rfl (Or.inl rfl) (pe_cal C_l_heaps hr rfl pass0 (pa_cons (pv 1) (pa_cons pe_int (pa_cons pe_int pa_nil)))))
      (pss_cons (ps_set (i := 3) sc_law.nd rfl (Or.inl rfl) (pe_callB call_len_seq (by rfl) T.len PySem.boot_len (pa_cons (pv 2) pa_nil)))
      (pss_cons (ps_par (i := 4) (j := 5) (by rfl) sc_law.nd rfl rfl (by decide) rfl rfl (pa_cons (pe_mak C_Desk hr rfl pass0 (pa_cons (pv 2) pa_nil)) (pa_cons (pe_lst (pa_cons (pe_tup (pa_cons (pv 2) (pa_cons (pe_tup pa_nil) pa_nil))) pa_nil)) pa_nil)) (by rfl))
      (pss_cons (ps_par (i := 6) (j := 7) (by rfl) sc_law.nd rfl rfl (by decide) rfl rfl (pa_cons (pe_mth0 C_copy T.cl hr pass0 (pv 4)) (pa_cons (pe_callTy call_list_of (by rfl) T.list (by decide +kernel) (pa_cons (pv 5) pa_nil)) pa_nil)) (by rfl))
      (pss_cons (ps_for PassesOwn.never rfl (pi_range1 rfl T.range (pa_cons (pe_cal C_l_next hr rfl pass0 (pa_cons (pv 1) (pa_cons pe_int pa_nil))) pa_nil)) (pg_name (i := 8) sc_law.nd rfl (Or.inl rfl))
      (pss_cons (ps_set (i := 9) sc_law.nd rfl (Or.inl rfl) (pe_cal C_l_next hr rfl pass0 (pa_cons (pv 1) (pa_cons pe_int pa_nil))))
      (pss_cons (ps_asg (pe_ix ix_list (pv 5) (pe_un un_neg pe_int) (fun _ _ => rfl)) (pg_tup rfl (pgs_cons (pg_name (i := 10) sc_law.nd rfl (Or.inr rfl)) (pgs_cons (pg_name (i := 11) sc_law.nd rfl (Or.inl rfl)) pgs_nil))))
      (pss_cutM (ps_if (pt_cmpR op_eq (pv 9) pe_int (nomark _)) (pss_cons (ps_if (pt_cmpR op_ne (pe_mth0 C_undo T.cl hr pass0 (pv 4)) (pe_cmpR op_gt (pe_callB call_len_seq (by rfl) T.len PySem.boot_len (pa_cons (pv 5) pa_nil)) pe_int (nomark _)) (nomark _)) (pss_one (ps_ret pe_bl)) pss_nil)
      (pss_one (ps_set (i := 5) sc_law.nd rfl (Or.inl rfl) (pe_slice sl_list (pv 5) po_none (po_some (pe_callB (call_max2 rfl) (by rfl) T.max (by decide +kernel) (pa_cons pe_int (pa_cons (pe_op op_sub (pe_callB call_len_seq (by rfl) T.len PySem.boot_len (pa_cons (pv 5) pa_nil)) pe_int) pa_nil)))))))) (pss_one (ps_if (pt_cmpR op_eq (pv 9) pe_int (nomark _)) (pss_one (ps_par (i := 6) (j := 7) (by rfl) sc_law.nd rfl rfl (by decide) rfl rfl (pa_cons (pe_mth0 C_copy T.cl hr pass0 (pv 4)) (pa_cons (pe_callTy call_list_of (by rfl) T.list (by decide +kernel) (pa_cons (pv 5) pa_nil)) pa_nil)) (by rfl))) (pss_one (ps_if (pt_cmpR op_eq (pv 9) pe_int (nomark _)) (pss_cons (ps_set (i := 12) sc_law.nd rfl (Or.inl rfl) (pe_ix ix_list (pe_lst (pa_cons pe_non (pa_cons pe_bl (pa_cons (pe_un un_neg pe_int) (pa_cons (pv 3) (pa_cons pe_str (pa_cons (pe_tup (pa_cons pe_int pa_nil)) (pa_cons pe_int pa_nil)))))))) (pe_cal C_l_next hr rfl pass0 (pa_cons (pv 1) (pa_cons pe_int pa_nil))) (fun _ _ => rfl)))
      (pss_one (ps_if (PW.pt (pw_or (pt_cmpR op_notN (pe_cal C_l_moved hr rfl pass0 (pa_cons (pv 4) (pa_cons pe_int (pa_cons (pv 12) pa_nil)))) pe_non (nomark _)) (pw_or1 (pt_cmpR op_notN (pe_cal C_l_moved hr rfl pass0 (pa_cons (pv 4) (pa_cons (pv 12) (pa_cons pe_int pa_nil)))) pe_non (nomark _))))) (pss_one (ps_ret pe_bl)) pss_nil))) (pss_cons (ps_set (i := 13) sc_law.nd rfl (Or.inl rfl) (pe_ix ix_list (pe_cal C_l_pairs hr rfl pass0 (pa_cons (pv 3) pa_nil)) (pe_cal C_l_next hr rfl pass0 (pa_cons (pv 1) (pa_cons (pe_op op_mul (pv 3) (pe_op op_sub (pv 3) pe_int)) pa_nil))) (fun _ _ => rfl)))
      (pss_cons (ps_setLc (i := 14) (own := [("_law_one", 16)]) (g := gName 16) (by rfl) sc_law.nd rfl rfl (sw_true rfl rfl rfl (by decide +kernel)) (pi_list (pe_cal C_l_pairs hr rfl pass0 (pa_cons (pv 3) pa_nil))) (blkOk_by (own := [("_law_one", 16)]) (N := ["_law_script", "_law_h", "_law_heaps_here", "_law_size", "_law_desk", "_law_rows", "_law_kept", "_law_olds", "_law_turn", "_law_kind", "_law_here", "_law_plan", "_law_bad", "_law_step", "_law_fine", "_law_told", "_law_one"]) (sc := defScope s_law) (by decide +kernel)) (fun _ _ _ _ _ => pg_name (i := 16) sc_law.nd rfl (Or.inl rfl)) (fun _ _ _ _ _ => pts_one (pt_val (pe_cal C_l_can hr rfl pass0 (pa_cons (pv 10) (pa_cons (pv 16) pa_nil))))) (fun _ _ _ _ _ => (pv 16)))
      (pss_cutM (ps_if (PW.pt (pw_and (pt_cmpR (op_neD hr.units) (pv 14) (pe_lst pa_nil) (nomark _)) (pw_and1 (pt_cmpR op_gt (pv 9) pe_int (nomark _))))) (pss_one (ps_set (i := 13) sc_law.nd rfl (Or.inl rfl) (pe_ix ix_list (pv 14) (pe_cal C_l_next hr rfl pass0 (pa_cons (pv 1) (pa_cons (pe_callB call_len_seq (by rfl) T.len PySem.boot_len (pa_cons (pv 14) pa_nil)) pa_nil))) (fun _ _ => rfl)))) pss_nil)
      (pss_cons (ps_set (i := 15) sc_law.nd rfl (Or.inl rfl) (pe_cal C_l_moved hr rfl pass0 (pa_cons (pv 4) (pa_cons (pe_ix ix_tup (pv 13) pe_int (fun _ _ => rfl)) (pa_cons (pe_ix ix_tup (pv 13) pe_int (fun _ _ => rfl)) pa_nil)))))
      (pss_one (ps_if (pt_cmpR (op_notInD hu65) (pv 13) (pv 14) (by rfl)) (pss_one (ps_if (pt_cmpR op_notN (pv 15) pe_non (nomark _)) (pss_one (ps_ret pe_bl)) pss_nil)) (pss_one (ps_if (pt_cmpR op_ne (pv 15) (pe_ix ix_tup (pv 10) (pe_ix ix_tup (pv 13) pe_int (fun _ _ => rfl)) (fun _ _ => rfl)) (nomark _)) (pss_one (ps_ret pe_bl)) (pss_one (ps_expr (pe_bm PySem.F.plainAttrs_list PySem.F.slot_list_append PySem.F.type_list_append mt_append (pv 5) (pa_cons (pe_tup (pa_cons (pe_cal C_l_behind hr rfl pass0 (pa_cons (pv 10) (pa_cons (pv 13) pa_nil))) (pa_cons (pe_op op_catA (pv 11) (pe_tup (pa_cons (pv 13) pa_nil))) pa_nil))) pa_nil)))))))))))))))))
      (pss_one (ps_if (pt_not (pt_val (pe_cal C_l_stands hr rfl pass0 (pa_cons (pv 4) (pa_cons (pv 5) pa_nil))))) (pss_one (ps_ret pe_bl)) pss_nil))))))
      (pss_cons (ps_if (PW.pt (pw_or (pt_not (pt_val (pe_cal C_l_stands hr rfl pass0 (pa_cons (pv 6) (pa_cons (pv 7) pa_nil))))) (pw_or1 (pt_cmpR op_ne (pe_mth0 C_undo T.cl hr pass0 (pv 6)) (pe_cmpR op_gt (pe_callB call_len_seq (by rfl) T.len PySem.boot_len (pa_cons (pv 7) pa_nil)) pe_int (nomark _)) (nomark _))))) (pss_one (ps_ret pe_bl)) pss_nil)
      (pss_one (ps_ret (pe_and (pe_cal C_l_stands hr rfl pass0 (pa_cons (pv 6) (pa_cons (pe_slice sl_list (pv 7) po_none (po_some (pe_callB (call_max2 rfl) (by rfl) T.max (by decide +kernel) (pa_cons pe_int (pa_cons (pe_op op_sub (pe_callB call_len_seq (by rfl) T.len PySem.boot_len (pa_cons (pv 7) pa_nil)) pe_int) pa_nil))))) pa_nil))) (pe_one (pe_cal C_l_stands hr rfl pass0 (pa_cons (pv 4) (pa_cons (pv 5) pa_nil)))))))))))))), ?_⟩
    refine ⟨_, rfl, a, ns, 6, rfl, hS, hlen, fun h c H1 nh nc s1 D1 => ?_⟩
    refine ⟨_, rfl, h, c, 2, 6, rfl, D1, by decide, by decide, by decide, fun t0 s H2 hok nt0 Z0 D2 k2 => ?_⟩
    refine ⟨_, rfl, t0, _, rfl, .inr Z0.sq, ?_⟩
    have hg := heaps_good hok
    refine ⟨_, rfl, fun d dx nd ndx nex => ?_⟩
    have s3 : Same H2 (upd (upd H2 dx (.own d)) d (.ins C dx [])) := fun b o e => by
      rw [upd_ne (ne_of_none e nd), upd_ne (ne_of_none e ndx)]
      exact e
    refine ⟨d, dx, t0, s, rfl, upd_same, Z0.same s3, hg, fun ls lt H3 n1 n2 kp Dk => ⟨rfl, ?_⟩⟩
    have s4 : Same H2 H3 := fun b o e => kp b o (s3 b o e) (ne_of_none e nd)
    have n1 : H2 ls = none := s3.free n1
    have n2 : H2 lt = none := s3.free n2
    clear kp s3 nd ndx nex
    refine ⟨_, rfl, by show 0 ≤ sizeLine; decide, fun u hu => ?_⟩
    refine ⟨by show 2 ≤ sizeLine; decide, fun r hr0 => ?_⟩
    refine ⟨by show 1 ≤ sizeLine; decide, fun R hR => ?_⟩
    have s5 : Same H3 (upd H3 u (.tup [])) := Same.new hu
    have s6 := s5.trans (Same.new (o := .tup [.ref t0, .ref u]) hr0)
    have s7 := s6.trans (Same.new (o := .lst [.ref r]) hR)
    have W0 : RowsAt K (upd (upd (upd H3 u (.tup [])) r (.tup [.ref t0, .ref u])) R (.lst [.ref r])) R s [] [r] := by
      refine ⟨upd_same, rfl, fun i a e => ?_⟩
      have ea : i = 0 ∧ r = a := by
        cases i with
        | zero => exact ⟨rfl, by simpa using e⟩
        | succ m => simp at e
      obtain ⟨rfl, rfl⟩ := ea
      have sr : Same (upd (upd H3 u (.tup [])) r (.tup [.ref t0, .ref u])) (upd (upd (upd H3 u (.tup [])) r (.tup [.ref t0, .ref u])) R (.lst [.ref r])) := Same.new hR
      refine ⟨t0, u, [], SqT.of (sr _ _ upd_same), Same.tup (s4.trans s7) Z0.sq, ⟨SqT.of (sr _ _ (Same.new hr0 _ _ upd_same)), fun p hp => (nomatch hp)⟩, rfl⟩
    have nR := s6.free hR
    have D2' := D2.same (s4.trans s7)
    have Dk' := Dk.same s7
    have nRls : R ≠ ls := (ne_of_none Dk.sl.ls nR).symm
    have nRlt : R ≠ lt := (ne_of_none Dk.pl.ls nR).symm
    obtain ⟨⟨_, _, _, q1, q2, _⟩, _⟩ := D2
    have nh1 := ne_of_none q1 n1
    have nh2 := ne_of_none q1 n2
    have nc1 := ne_of_none q2 n1
    have nc2 := ne_of_none q2 n2
    have nh3 := ne_of_none (s4 _ _ q1) nR
    have nc3 := ne_of_none (s4 _ _ q2) nR
    clear s5 s6 s7 hu hr0 hR nR s4
    generalize (upd (upd (upd H3 u (.tup [])) r (.tup [.ref t0, .ref u])) R (.lst [.ref r])) = H4 at W0 D2' Dk' ⊢
    refine ⟨_, _, rfl, ?_⟩
    obtain ⟨ddx, hd4⟩ := Dk'.ins
    refine ⟨_, rfl, d, ddx, _, rfl, hd4, pf_copy _ _, d, ls, lt, s, [], _, _, rfl, Dk', by decide, fun d1 ls1 lt1 hs1 ps1 H5 s5 z1 z2 E1 => ?_⟩
    refine ⟨_, rfl, R, _, rfl, .inl (SqL.of (s5 _ _ W0.ls)), fun O hO => ?_⟩
    have s6 : Same H5 (upd H5 O (.lst (([r].map V.ref)))) := Same.new hO
    have W0' : RowsAt K (upd H5 O (.lst ([r].map V.ref))) O s [] [r] := ⟨upd_same, rfl, fun i a e => ((W0.same s5).same s6).at_ i a e⟩
    have L0 : LI K C (upd H5 O (.lst ([r].map V.ref))) h c s 0 d ls lt [] [(t0, s)] [] R [r] d1 ls1 lt1 [] hs1 ps1 O [r] := by
      have a1 := D2'.same (s5.trans s6)
      obtain ⟨⟨_, _, _, q1, q2, _⟩, _⟩ := D2'
      have f : ∀ {x : Addr} {o : HO}, H4 x = some o → x ≠ ls1 ∧ x ≠ lt1 ∧ x ≠ O := fun hx => ⟨ne_of_none hx z1, ne_of_none hx z2, ne_of_none hx (s5.free hO)⟩
      exact ⟨a1, Dk'.same (s5.trans s6), W0.same (s5.trans s6), E1.same s6, W0', ⟨nh1, nh2, nh3, f q1⟩, ⟨nc1, nc2, nc3, f q2⟩, ⟨nRls.symm, f Dk'.sl.ls⟩, ⟨nRlt.symm, f Dk'.pl.ls⟩, f W0.ls, ⟨ne_of_none E1.sl.ls hO, ne_of_none E1.pl.ls hO⟩, Nat.le_refl _, Nat.le_refl _⟩
    clear W0 W0' Dk' D2' E1 s5 s6 z1 z2 nh1 nh2 nh3 nc1 nc2 nc3 nRls nRlt hd4
    generalize (upd H5 O (.lst ([r].map V.ref))) = H6 at L0 ⊢
    refine ⟨_, _, rfl, ?_⟩
    refine ⟨_, rfl, h, c, 21, rfl, L0.dr, by decide, by decide, fun N H7 N0 N21 D7 k7 => ?_⟩
    refine ⟨_, rfl, by omega, by omega, ?_⟩
    have L1 := L0.draw k7 D7
    clear L0
    obtain ⟨N, rfl⟩ := Int.eq_ofNat_of_zero_le N0
    rw [Int.toNat_natCast]
    obtain ⟨hl2, hl6⟩ := hps_len hg
    refine for_range (lo := 0) (n := N) (SI K C a h c t0 d ls lt s)
      ⟨[], _, _, R, [r], d1, ls1, lt1, [], hs1, ps1, O, [r], _, _, _, _, _, _, _, _, _, rfl, L1⟩ ?_ ?_
    · rintro i σ H8 hi ⟨st, hs, ps, R, rows, d', ls', lt', st', hs', ps', O, olds, v8, v9, v10, v11, v12, v13, v14, v15, v16, rfl, L⟩
      -- _law_kind
      refine ⟨_, rfl, h, c, 9, rfl, L.dr, by decide, by decide, fun kd H9 kd0 kd9 D9 k9 => ?_⟩
      have L9 := L.draw k9 D9
      obtain ⟨ra, hra, rt, ru, rps, r1, r2, r3, r4⟩ := L9.W.last
      have hrl : st.length + 1 = (rows.map V.ref).length := by rw [List.length_map, L9.W.len]
      refine ⟨_, rfl, _, rfl, R, _, _, _, rfl, rfl, SqL.of L9.W.ls, at_neg1 hra hrl, _, _, rfl, r1, rfl, _, _, rfl, _, _, rfl, rfl, ?_⟩
      obtain ⟨dx9, hd9⟩ := L9.D.ins
      have hb := L9.b
      have hb20 : st.length < 100 := by omega
      refine ⟨SI K C a h c t0 d ls lt s (i + 1), ⟨_, rfl, rfl, _, rfl, ?_⟩, ?_⟩
      · rw [dec_int]
        by_cases hk0 : kd = 0
        · rw [decide_eq_true hk0]
          refine iteT ?_
          have hrl2 : ((rows.map V.ref).length : Int) = (st.length : Int) + 1 := by omega
          by_cases h0 : st = []
          · have hl0 : st.length = 0 := by rw [h0]; rfl
            refine ⟨_, rfl, d, dx9, _, rfl, hd9, pf_undo _ _, d, ls, lt, s, st, hs, ps, rfl, L9.D, fun _ => ?_, fun z => absurd h0 z⟩
            refine ⟨_, rfl, R, _, rfl, .inl (SqL.of L9.W.ls), _, _, rfl, rfl, rfl, _, rfl, ?_⟩
            refine ifF (ne_bl (decide_eq_false (show ¬ (1 : Int) < ((rows.map V.ref).length : Int) by omega)).symm) ?_
            refine ⟨_, rfl, _, rfl, R, _, rfl, .inl (SqL.of L9.W.ls), _, _, rfl, rfl, _, _, rfl, _, rfl, R, _, rfl, SqL.of L9.W.ls, fun p hp => ?_⟩
            rw [cut_rows hrl.symm]
            have s1 : Same H9 (upd H9 p (.lst ((rows.map V.ref).take (max 1 st.length)))) := Same.new hp
            refine ⟨_, hs, ps, p, _, _, _, _, _, _, _, _, _, _, _, _, _, _, _, _, _, _, rfl, L9.turn (.of s1) ?_ (RowsAt.cut (L9.W.same s1) upd_same) (.inr hp) ?_⟩
            · rw [h0]
              have := L9.D.same s1
              rw [h0] at this
              exact this
            · rw [List.length_dropLast]
              omega
          · have hl0 : 0 < st.length := List.length_pos_iff.mpr h0
            refine ⟨_, rfl, d, dx9, _, rfl, hd9, pf_undo _ _, d, ls, lt, s, st, hs, ps, rfl, L9.D, fun z => absurd z h0, fun _ H10 g10 D10 => ?_⟩
            obtain ⟨m1, m2, m3, m4⟩ := L9.n3
            obtain ⟨m5, m6, m7, m8⟩ := L9.n4
            have W10 := L9.W.chg g10 (not2 m1 m5)
            refine ⟨_, rfl, R, _, rfl, .inl (SqL.of W10.ls), _, _, rfl, rfl, rfl, _, rfl, ?_⟩
            refine ifF (ne_bl (decide_eq_true (show (1 : Int) < ((rows.map V.ref).length : Int) by omega)).symm) ?_
            refine ⟨_, rfl, _, rfl, R, _, rfl, .inl (SqL.of W10.ls), _, _, rfl, rfl, _, _, rfl, _, rfl, R, _, rfl, SqL.of W10.ls, fun p hp => ?_⟩
            rw [cut_rows hrl.symm]
            have s1 : Same H10 (upd H10 p (.lst ((rows.map V.ref).take (max 1 st.length)))) := Same.new hp
            refine ⟨_, _, _, p, _, _, _, _, _, _, _, _, _, _, _, _, _, _, _, _, _, _, rfl, L9.turn ((g10.trans (.of s1)).mono (fun x hx => ?_)) (D10.same s1) (RowsAt.cut (W10.same s1) upd_same) (.inr (g10.free hp)) ?_⟩
            · rcases List.mem_cons.mp hx with rfl | hx
              · simp
              · rw [List.mem_singleton] at hx
                subst hx
                simp
            · rw [List.length_dropLast]
              omega
        · rw [decide_eq_false hk0]
          refine iteF ?_
          refine ⟨_, rfl, rfl, _, rfl, ?_⟩
          rw [dec_int]
          by_cases hk1 : kd = 1
          · rw [decide_eq_true hk1]
            refine iteT ⟨_, rfl, d, dx9, _, rfl, hd9, pf_copy _ _, d, ls, lt, s, st, hs, ps, rfl, L9.D, by omega, fun d2 ls2 lt2 hs2 ps2 H10 s10 z1 z2 D2 => ⟨_, rfl, R, _, rfl, .inl (SqL.of (s10 _ _ L9.W.ls)), fun O2 hO => ?_⟩⟩
            have s11 : Same H10 (upd H10 O2 (.lst (rows.map V.ref))) := Same.new hO
            have s12 := s10.trans s11
            have W2 : RowsAt K (upd H10 O2 (.lst (rows.map V.ref))) O2 s st rows := ⟨upd_same, L9.W.len, (L9.W.same s12).at_⟩
            exact ⟨_, _, rfl, _, _, _, _, _, _, _, _, _, _, _, _, _, _, _, _, _, _, _, _, _, _, rfl, (L9.keep s12 (D2.same s11) W2 z1 z2 (s10.free hO) (ne_of_none D2.sl.ls hO) (ne_of_none D2.pl.ls hO)).up⟩
          rw [decide_eq_false hk1]
          refine iteF ⟨_, rfl, rfl, _, rfl, ?_⟩
          rw [dec_int]
          by_cases hk2 : kd = 2
          · rw [decide_eq_true hk2]
            refine iteT ⟨_, rfl, _, rfl, by show 1 ≤ sizeLine; decide, fun tp htp => ⟨by show 7 ≤ sizeLine; decide, fun bl hbl => ?_⟩⟩
            have s10 : Same H9 (upd H9 tp (.tup [.int 0])) := Same.new htp
            have s11 := s10.trans (Same.new (o := .lst [.non, .bl true, .int (-1), .int ((s.map V.int).length : Int), .str "0", .ref tp, .int 0]) hbl)
            have htp2 := (Same.new (o := .lst [.non, .bl true, .int (-1), .int ((s.map V.int).length : Int), .str "0", .ref tp, .int 0]) hbl) _ _ (upd_same (H := H9) (a := tp) (o := .tup [.int 0]))
            have L10 := L9.same s11
            have hbl2 : (upd (upd H9 tp (.tup [.int 0])) bl (.lst [.non, .bl true, .int (-1), .int ((s.map V.int).length : Int), .str "0", .ref tp, .int 0])) bl = some (.lst [.non, .bl true, .int (-1), .int ((s.map V.int).length : Int), .str "0", .ref tp, .int 0]) := upd_same
            have nb := L9.dr.nots (s10.free hbl)
            generalize (upd (upd H9 tp (.tup [.int 0])) bl (.lst [.non, .bl true, .int (-1), .int ((s.map V.int).length : Int), .str "0", .ref tp, .int 0])) = H10 at htp2 L10 hbl2 ⊢
            refine ⟨_, rfl, h, c, 7, rfl, L10.dr, by decide, by decide, fun n H11 n0 n7 D11 k11 => ?_⟩
            have L11 := L10.draw k11 D11
            have g11 := k11.chg L10.dr D11
            obtain ⟨v, ev, hv⟩ := bad7 (K := K) (n := (s.map V.int).length) (tp := tp) (by rw [List.length_map]; exact hl2) n0 n7
            obtain ⟨dv, hdv, hno⟩ := hv H11 (g11.keep _ _ htp2 (.inl rfl))
            obtain ⟨hno1, hno2⟩ := hno (fin s st) (by rw [fin_len, List.length_map])
            refine ⟨bl, _, _, _, rfl, rfl, SqL.of (g11.keep _ _ hbl2 (.inr (not2 nb.1.symm nb.2.symm))), ev, ?_⟩
            refine ⟨_, rfl, _, rfl, d, ls, lt, s, st, hs, ps, _, v, _, dv, rfl, L11.D, hb20, .int 0, hdv, fun i j e hi' hj' hij hc => no_step hno1 e (by rw [fin_len]; exact hi') (by rw [fin_len]; exact hj') hij hc, fun _ H12 s12 => ⟨rfl, _, rfl, iteF ?_⟩⟩
            have L12 := L11.same s12
            refine ⟨_, rfl, _, rfl, d, ls, lt, s, st, hs, ps, v, _, dv, _, rfl, L12.D, hb20, dp_same s12 hdv, .int 0, fun i j e hi' hj' hij hc => no_step hno2 e (by rw [fin_len]; exact hi') (by rw [fin_len]; exact hj') hij hc, fun _ H13 s13 => ⟨rfl, _, rfl, iteF ?_⟩⟩
            exact ⟨_, _, _, _, _, _, _, _, _, _, _, _, _, _, _, _, _, _, _, _, _, _, rfl, (L12.same s13).up⟩
          rw [decide_eq_false hk2]
          refine iteF ?_
          -- a step is drawn
          refine ⟨_, rfl, s.length, by rw [List.length_map], hl6, fun pl qs H10 s10 hpl hP hq => ?_⟩
          have L10 := L9.same s10
          have hql : qs.length = s.length * (s.length - 1) := by
            have e := congrArg List.length hq
            rw [List.length_map] at e
            rw [e, prs_len hl6]
          have emul : ((s.map V.int).length : Int) * (((s.map V.int).length : Int) - 1) = ((s.length * (s.length - 1) : Nat) : Int) := by
            rw [List.length_map]
            have : ((s.length - 1 : Nat) : Int) = (s.length : Int) - 1 := by omega
            rw [Int.natCast_mul, this]
          have hmul : s.length * (s.length - 1) ≤ 36 := by
            have := Nat.mul_le_mul hl6 (show s.length - 1 ≤ 5 by omega)
            omega
          have hmul2 : 2 ≤ s.length * (s.length - 1) := Nat.mul_le_mul hl2 (show 1 ≤ s.length - 1 by omega)
          refine ⟨_, rfl, _, rfl, _, rfl, _, _, rfl, rfl, _, _, rfl, rfl, .inl ⟨by rw [List.length_map]; omega, by rw [List.length_map]; omega⟩, ?_⟩
          refine ⟨h, c, ((s.map V.int).length : Int) * (((s.map V.int).length : Int) - 1), rfl, L10.dr, by rw [emul]; omega, by rw [emul]; omega, fun n H11 n0 n1' D11 k11 => ?_⟩
          rw [emul] at n1'
          obtain ⟨n, rfl⟩ := Int.eq_ofNat_of_zero_le n0
          have L11 := L10.draw k11 D11
          have g11 := k11.chg L10.dr D11
          have nb := L9.dr.nots hpl
          have hP11 := hP.chg g11 (not2 nb.1.symm nb.2.symm)
          have hnq : n < qs.length := by omega
          refine ⟨pl, _, _, _, rfl, rfl, SqL.of hP11.ls, at_of rfl (by rw [List.getElem?_map, List.getElem?_eq_getElem hnq]; rfl), ?_⟩
          have P0 := hP11.st qs[n] (List.getElem_mem hnq)
          -- those that can be made
          refine ⟨_, rfl, s.length, by rw [List.length_map], hl6, fun l2 q2 H12 s12 hl2' hQ2 hq2 => ?_⟩
          have L12 := L11.same s12
          have q2l : q2.length ≤ 36 := by
            have e := congrArg List.length hq2
            rw [List.length_map] at e
            rw [e]
            exact prs_short hl6
          have R2 : SqT K H12 rt ((fin s st).map V.int) := Same.tup s12 (g11.tup (Same.tup s10 r2))
          refine ⟨l2, rfl, ⟨_, SqL.of hQ2.ls⟩, fun D hD => lc_list (K := K) (a := l2) (xs := q2.map fun p => V.ref p.1) (fun j H13 => PrL K H13 D s.length ((q2.take j).filter fun p => can (fin s st) p.2.1 p.2.2) ∧ Same H12 H13) ⟨⟨upd_same, fun p hp => (nomatch hp)⟩, Same.new hD⟩ (fun j H13 _ q => SqL.of (q.2 _ _ hQ2.ls)) ?_ ?_⟩
          · rintro j x H13 hx ⟨hF, s13⟩
            rw [List.getElem?_map] at hx
            obtain ⟨p, hp, rfl⟩ := Option.map_eq_some_iff.mp hx
            obtain ⟨a1, a2, a3, a4⟩ := hQ2.st p (List.mem_of_getElem? hp)
            have fl : ((q2.take j).filter fun p => can (fin s st) p.2.1 p.2.2).length ≤ 36 := Nat.le_trans (List.length_filter_le _ _) (by rw [List.length_take]; omega)
            rw [filter_take hp]
            refine ⟨rfl, _, rfl, _, rfl, rt, p.1, fin s st, p.2.1, p.2.2, rfl, Same.tup s13 R2, Same.tup s13 a1, by rw [fin_len]; exact a2, by rw [fin_len]; exact a3, _, rfl, ?_⟩
            cases hc : can (fin s st) p.2.1 p.2.2 with
            | true =>
              refine iteT ⟨_, rfl, _, hF.ls, by rw [List.length_map, sizeLine_eq]; exact Nat.lt_of_le_of_lt fl (by decide), ?_, same_upd s13 hD⟩
              rw [if_pos rfl]
              exact hF.more (qs := [p]) fun y hy => by
                have e : y = p := by simpa using hy
                subst e
                exact ⟨Same.tup s13 a1, a2, a3, a4⟩
            | false =>
              refine iteF ?_
              rw [if_neg (by decide), List.append_nil]
              exact ⟨hF, s13⟩
          rintro H13 ⟨hF, s13⟩
          rw [List.length_map, List.take_length] at hF
          have hfs : ((q2.filter fun p => can (fin s st) p.2.1 p.2.2).map (·.2)) = due (fin s st) := by
            unfold due
            rw [fin_len, ← hq2, List.filter_map]
            rfl
          have hfl : (q2.filter fun p => can (fin s st) p.2.1 p.2.2).length ≤ 36 := Nat.le_trans (List.length_filter_le _ _) q2l
          generalize (q2.filter fun p => can (fin s st) p.2.1 p.2.2) = fs at hF hfs hfl ⊢
          have L13 := L12.same s13
          have hD12 : H9 D = none := s10.free (g11.free (s12.free hD))
          have gg : Chg [h, c] H9 H13 := ((Chg.of s10).trans g11).trans (.of (s12.trans s13))
          have P13 : StAt K H13 s.length qs[n] := ⟨Same.tup (s12.trans s13) P0.1, P0.2⟩
          obtain ⟨⟨_, _, _, y1, y2, _⟩, _⟩ := L9.dr
          have nD : h ≠ D ∧ c ≠ D ∧ ls ≠ D ∧ lt ≠ D ∧ R ≠ D := ⟨ne_of_none y1 hD12, ne_of_none y2 hD12, ne_of_none L9.D.sl.ls hD12, ne_of_none L9.D.pl.ls hD12, ne_of_none L9.W.ls hD12⟩
          -- one of these at times
          refine ⟨fun σ' H14 => ∃ (p : Srow) (v8 v9 v12 v15 v16 : Option V), σ' = [some (.ref a), some (.ref h), some (.ref t0), some (.int ((s.map V.int).length : Int)), some (.ref d), some (.ref R), some (.ref d'), some (.ref O), v8, v9, some (.ref rt), some (.ref ru), v12, some (.ref p.1), some (.ref D), v15, v16] ∧
              LI K C H14 h c s i d ls lt st hs ps R rows d' ls' lt' st' hs' ps' O olds ∧ PrL K H14 D s.length fs ∧ StAt K H14 s.length p ∧ Chg [h, c] H9 H14, ?_, ?_⟩
          · refine ⟨_, rfl, by show 0 ≤ sizeLine; decide, fun e he => ?_⟩
            have s14 : Same H13 (upd H13 e (.lst [])) := Same.new he
            have hF14 := hF.same s14
            refine ⟨_, _, hF14.dp, .lst (SqL.of upd_same) .nil, steps_ok _, steps_ok [], _, rfl, ?_⟩
            rw [list_nil]
            cases hem : (fs.map (·.2)).isEmpty with
            | true => exact iteF ⟨_, _, _, _, _, _, rfl, L13.same s14, hF14, P13.same s14, gg.trans (.of s14)⟩
            | false =>
              refine iteT ⟨_, rfl, _, _, rfl, rfl, _, rfl, ?_⟩
              by_cases h4 : (4 : Int) < kd
              · rw [decide_eq_true h4]
                have fpos : 0 < fs.length := by
                  cases fs with
                  | nil => cases hem
                  | cons _ _ => simp
                have L14 := L13.same s14
                refine iteT ⟨_, rfl, _, rfl, _, rfl, D, _, rfl, .inl (SqL.of hF14.ls), h, c, _, rfl, L14.dr, by rw [List.length_map]; omega, by rw [List.length_map]; omega, fun m H15 m0 m1 D15 k15 => ?_⟩
                obtain ⟨m, rfl⟩ := Int.eq_ofNat_of_zero_le m0
                have g15 := k15.chg L14.dr D15
                have hF15 := hF14.chg g15 (not2 nD.1 nD.2.1)
                rw [List.length_map] at m1
                have hmf : m < fs.length := by omega
                refine ⟨D, _, _, _, rfl, rfl, SqL.of hF15.ls, at_of rfl (by rw [List.getElem?_map, List.getElem?_eq_getElem hmf]; rfl), ?_⟩
                exact ⟨fs[m], _, _, _, _, _, rfl, L14.draw k15 D15, hF15, hF15.st _ (List.getElem_mem hmf), (gg.trans (.of s14)).trans g15⟩
              · rw [decide_eq_false h4]
                exact iteF ⟨_, _, _, _, _, _, rfl, L13.same s14, hF14, P13.same s14, gg.trans (.of s14)⟩
          rintro σ' H14 ⟨p, v8', v9', v12', v15', v16', rfl, L14, F14, ⟨q1, q2', q3, q4⟩, g14⟩
          -- the step is made
          refine ⟨_, rfl, _, rfl, p.1, _, _, _, rfl, rfl, q1, rfl, _, rfl, p.1, _, _, _, rfl, rfl, q1, rfl, ?_⟩
          refine ⟨d, ls, lt, s, st, hs, ps, _, _, _, _, rfl, L14.D, hb20, .int _, .int _, fun i' j' e hi' hj' hij hc e5 u5 H15 g15 _ _ D15 => ?_, fun hno H15 s15 => ?_⟩
          · have eij : p.2 = (i', j') := by
              have := congrArg (fun z => PyData.eqv (dS p.2) z) e
              have e0 : PyData.tuple [.int (p.2.1 : Int), .int (p.2.2 : Int)] = dS p.2 := rfl
              rw [e0] at e
              have := dS_eqv p.2 (i', j')
              rw [← e, dS_eqv, decide_eq_true rfl] at this
              exact of_decide_eq_true this.symm
            have hin : decide (p.2 ∈ due (fin s st)) = true := decide_eq_true (by
              rw [eij]
              exact mem_due.mpr ⟨by rw [fin_len]; exact hi', by rw [fin_len]; exact hj', hij, hc⟩)
            have F15 := F14.chg g15 (not2 nD.2.2.1 nD.2.2.2.1)
            have q15 := g15.tup q1
            have epc : can (fin s st) p.2.1 p.2.2 = true := by rw [eij]; exact hc
            refine ⟨_, rfl, _, rfl, dS p.2, (fs.map fun x : Srow => x.2).map dS, .tup q15 (.cons (.int _) (.cons (.int _) .nil)), F15.dp, dS_ok _, steps_ok _, _, rfl, ?_⟩
            rw [any_dS, hfs, hin]
            have R15 : SqT K H15 rt ((fin s st).map V.int) := g15.tup (g14.tup r2)
            have Pl15 : PlanAt K H15 ru s.length rps := (r3.chg g14).chg g15
            refine iteF ⟨_, rfl, _, rfl, _, rfl, p.1, _, _, _, rfl, rfl, q15, rfl, rt, _, _, _, rfl, rfl, R15, at_of rfl (getD_at (by rw [fin_len]; exact q3)), ?_⟩
            refine ⟨rfl, _, rfl, ?_⟩
            rw [dec_int, eij]
            rw [decide_eq_true rfl]
            refine iteF ?_
            -- the new row
            have W15 : RowsAt K H15 R s st rows := L14.W.chg g15 (not2 L14.n3.1 L14.n4.1)
            refine ⟨_, rfl, .inl ⟨rfl, _, SqL.of W15.ls⟩, _, rfl, _, rfl, rt, p.1, fin s st, p.2.1, p.2.2, rfl, R15, q15, by rw [fin_len]; exact q2', by rw [fin_len]; exact q3, q4, fun eb H16 s16 heb heb2 => ?_⟩
            refine ⟨_, rfl, _, rfl, by show 1 ≤ sizeLine; decide, fun tb htb => ?_⟩
            have s17 : Same H16 (upd H16 tb (.tup [.ref p.1])) := Same.new htb
            have Pl17 := (Pl15.same s16).same s17
            have q17 := Same.tup (s16.trans s17) q15
            have St17 : StAt K (upd H16 tb (.tup [.ref p.1])) s.length p := ⟨q17, q2', q3, q4⟩
            have D17 := D15.same (s16.trans s17)
            have hn17 : s17 _ _ heb2 = s17 _ _ heb2 := rfl
            have eb17 := s17 _ _ heb2
            have tb17 : (upd H16 tb (.tup [.ref p.1])) tb = some (.tup [.ref p.1]) := upd_same
            have gA : Chg [ls, lt, R] H14 (upd H16 tb (.tup [.ref p.1])) := ((g15.trans (.of (s16.trans s17))).mono fun x hx => by
              rcases List.mem_cons.mp hx with rfl | hx
              · simp
              · rw [List.mem_singleton] at hx
                subst hx
                simp)
            have W17 : RowsAt K (upd H16 tb (.tup [.ref p.1])) R s st rows := W15.same (s16.trans s17)
            have St17l : rps.length = st.length := by rw [← r4, List.length_map]
            -- what is appended
            have fin' : ∀ (u6 : Addr) (H18 : Hp), Same (upd H16 tb (.tup [.ref p.1])) H18 → PlanAt K H18 u6 s.length (rps ++ [p]) → ∀ a9, H18 a9 = none → SI K C a h c t0 d ls lt s (i + 1)
                [some (.ref a), some (.ref h), some (.ref t0), some (.int ((s.map V.int).length : Int)), some (.ref d), some (.ref R), some (.ref d'), some (.ref O), v8', v9', some (.ref rt), some (.ref ru), v12', some (.ref p.1), some (.ref D), some (.int ((fin s st).getD j' 0)), v16']
                (upd (upd H18 a9 (.tup [.ref eb, .ref u6])) R (.lst (rows.map V.ref ++ [.ref a9]))) := fun u6 H18 s18 P18 a9 h9 => by
              have s19 : Same H18 (upd H18 a9 (.tup [.ref eb, .ref u6])) := Same.new h9
              have W19 := (W17.same s18).same s19
              have gB : Chg [R] (upd H18 a9 (.tup [.ref eb, .ref u6])) (upd (upd H18 a9 (.tup [.ref eb, .ref u6])) R (.lst (rows.map V.ref ++ [.ref a9]))) := Chg.refl.upd (by simp) (fun v hv => by rw [W19.ls] at hv; cases hv; rfl)
              have e17 : SqT K (upd (upd H18 a9 (.tup [.ref eb, .ref u6])) R (.lst (rows.map V.ref ++ [.ref a9]))) eb ((mv (fin s st) i' j').map V.int) := gB.tup (SqT.of (s19 _ _ (s18 _ _ (by have := eb17; rw [eij] at this; exact this))))
              have rA : RowAt K (upd (upd H18 a9 (.tup [.ref eb, .ref u6])) R (.lst (rows.map V.ref ++ [.ref a9]))) s.length a9 (fin s (st ++ [(i', j')])) (st ++ [(i', j')]) := by
                refine ⟨eb, u6, rps ++ [p], gB.tup (SqT.of upd_same), ?_, (P18.same s19).chg gB, by rw [List.map_append, r4, List.map_cons, List.map_nil, eij]⟩
                rw [fin_snoc]
                exact e17
              have WN := W19.more gB upd_same rA
              have DN := ((D17.same s18).same s19).chg gB (not1 L14.n3.1.symm) (not1 L14.n4.1.symm)
              refine ⟨_, _, _, _, _, _, _, _, _, _, _, _, _, _, _, _, _, _, _, _, _, _, rfl, L14.turn (((gA.trans (.of (s18.trans s19))).trans (gB.mono fun x hx => by rw [List.mem_singleton] at hx; subst hx; simp))) DN WN (.inl rfl) ?_⟩
              rw [List.length_append, List.length_singleton]
              omega
            refine ⟨ru, tb, _, _, rfl, rfl, Pl17.tp, SqT.of tb17, ?_, fun hx => ?_, fun _ hy => (nomatch hy), fun hx _ u6 hu6 => ?_⟩
            · rw [List.length_map, St17l, sizeLine_eq]
              show st.length + 1 ≤ _
              omega
            · have hr0 : rps = [] := by
                cases rps with
                | nil => rfl
                | cons _ _ => cases hx
              refine ⟨by show 2 ≤ sizeLine; decide, fun a9 h9 => ⟨R, _, _, rfl, rfl, (W17.same (Same.new h9)).ls, by rw [List.length_map, W17.len, sizeLine_eq]; omega, ?_⟩⟩
              refine fin' tb _ (Same.refl _) ?_ a9 h9
              rw [hr0]
              exact ⟨SqT.of tb17, fun y hy => by
                have e : y = p := by simpa using hy
                subst e
                exact St17⟩
            · have s18 : Same (upd H16 tb (.tup [.ref p.1])) (upd (upd H16 tb (.tup [.ref p.1])) u6 (.tup (rps.map (fun p => V.ref p.1) ++ [.ref p.1]))) := Same.new hu6
              refine ⟨by show 2 ≤ sizeLine; decide, fun a9 h9 => ⟨R, _, _, rfl, rfl, ((W17.same s18).same (Same.new h9)).ls, by rw [List.length_map, W17.len, sizeLine_eq]; omega, ?_⟩⟩
              refine fin' u6 _ s18 ⟨SqT.of (by rw [upd_same, List.map_append]; rfl), fun y hy => ?_⟩ a9 h9
              rcases List.mem_append.mp hy with hy | hy
              · exact ((Pl17.same s18).st y hy)
              · have e : y = p := by simpa using hy
                subst e
                exact St17.same s18
          · have L15 := L14.same s15
            have F15 := F14.same s15
            have q15 := Same.tup s15 q1
            have hnin : decide (p.2 ∈ due (fin s st)) = false := decide_eq_false fun z => by
              obtain ⟨z1, z2, z3, z4⟩ := mem_due.mp z
              exact no_step (A := False) hno (show PyData.tuple [.int (p.2.1 : Int), .int (p.2.2 : Int)] = dS (p.2.1, p.2.2) from rfl) z1 z2 z3 z4
            refine ⟨_, rfl, _, rfl, dS p.2, (fs.map fun x : Srow => x.2).map dS, .tup q15 (.cons (.int _) (.cons (.int _) .nil)), F15.dp, dS_ok _, steps_ok _, _, rfl, ?_⟩
            rw [any_dS, hfs, hnin]
            refine iteT ⟨_, rfl, rfl, _, rfl, iteF ?_⟩
            exact ⟨_, _, _, _, _, _, _, _, _, _, _, _, _, _, _, _, _, _, _, _, _, _, rfl, L15.up⟩
      · rintro σ' H14 ⟨st, hs, ps, R, rows, d', ls', lt', st', hs', ps', O, olds, v8, v9, v10, v11, v12, v13, v14, v15, v16, rfl, L⟩
        have hb := L.b
        refine ⟨_, rfl, _, rfl, d, ls, lt, R, s, st, hs, ps, rows, rfl, L.D, L.W, by omega, fun H15 s15 => ⟨_, rfl, iteF ?_⟩⟩
        exact ⟨st, hs, ps, R, rows, d', ls', lt', st', hs', ps', O, olds, _, _, _, _, _, _, _, _, _, rfl, L.same s15⟩
    · rintro σ H8 ⟨st, hs, ps, R, rows, d', ls', lt', st', hs', ps', O, olds, v8, v9, v10, v11, v12, v13, v14, v15, v16, rfl, L⟩
      have hb := L.b
      have hb' := L.b'
      refine ⟨_, rfl, _, rfl, d', ls', lt', O, s, st', hs', ps', olds, rfl, L.D', L.W', by omega, fun H9 s9 => ⟨_, rfl, iteF ?_⟩⟩
      have L9 := L.same s9
      obtain ⟨dx', hd'⟩ := L9.D'.ins
      have hol : (olds.map V.ref).length = st'.length + 1 := by rw [List.length_map, L9.W'.len]
      by_cases h0 : st' = []
      · have hl0 : st'.length = 0 := by rw [h0]; rfl
        refine ⟨_, rfl, d', dx', _, rfl, hd', pf_undo _ _, d', ls', lt', s, st', hs', ps', rfl, L9.D', fun _ => ?_, fun z => absurd h0 z⟩
        refine ⟨_, rfl, O, _, rfl, .inl (SqL.of L9.W'.ls), _, _, rfl, rfl, rfl, _, rfl, ?_⟩
        refine ifF (ne_bl (decide_eq_false (show ¬ (1 : Int) < ((olds.map V.ref).length : Int) by omega)).symm) ?_
        refine ⟨_, rfl, _, rfl, _, rfl, O, _, rfl, .inl (SqL.of L9.W'.ls), _, _, rfl, rfl, _, _, rfl, _, rfl, O, _, rfl, SqL.of L9.W'.ls, fun p hp => ?_⟩
        rw [cut_rows hol]
        have s1 : Same H9 (upd H9 p (.lst ((olds.map V.ref).take (max 1 st'.length)))) := Same.new hp
        have Dd : DeskAt K C (upd H9 p (.lst ((olds.map V.ref).take (max 1 st'.length)))) d' ls' lt' s st'.dropLast hs' ps' := by
          have := L9.D'.same s1
          rw [h0] at this ⊢
          exact this
        refine ⟨d', ls', lt', p, s, st'.dropLast, hs', ps', _, rfl, Dd, RowsAt.cut (L9.W'.same s1) upd_same, by rw [List.length_dropLast]; omega, fun H10 s10 => ⟨true, rfl, iteT ?_⟩⟩
        have L10 := (L9.same s1).same s10
        exact ⟨_, rfl, _, rfl, d, ls, lt, R, s, st, hs, ps, rows, rfl, L10.D, L10.W, by omega, fun H11 _ => k H11⟩
      · have hl0 : 0 < st'.length := List.length_pos_iff.mpr h0
        refine ⟨_, rfl, d', dx', _, rfl, hd', pf_undo _ _, d', ls', lt', s, st', hs', ps', rfl, L9.D', fun z => absurd z h0, fun _ H10 g10 D10 => ?_⟩
        have W10 := L9.W'.chg g10 (not2 L9.n6.1 L9.n6.2)
        refine ⟨_, rfl, O, _, rfl, .inl (SqL.of W10.ls), _, _, rfl, rfl, rfl, _, rfl, ?_⟩
        refine ifF (ne_bl (decide_eq_true (show (1 : Int) < ((olds.map V.ref).length : Int) by omega)).symm) ?_
        refine ⟨_, rfl, _, rfl, _, rfl, O, _, rfl, .inl (SqL.of W10.ls), _, _, rfl, rfl, _, _, rfl, _, rfl, O, _, rfl, SqL.of W10.ls, fun p hp => ?_⟩
        rw [cut_rows hol]
        have s1 : Same H10 (upd H10 p (.lst ((olds.map V.ref).take (max 1 st'.length)))) := Same.new hp
        have DD := (L9.D.chg g10 (not2 L9.n3.2.1.symm L9.n3.2.2.1.symm) (not2 L9.n4.2.1.symm L9.n4.2.2.1.symm)).same s1
        have WW := (L9.W.chg g10 (not2 L9.n5.1.symm L9.n5.2.1.symm)).same s1
        refine ⟨d', ls', lt', p, s, st'.dropLast, _, _, _, rfl, D10.same s1, RowsAt.cut (W10.same s1) upd_same, by rw [List.length_dropLast]; omega, fun H11 s11 => ⟨true, rfl, iteT ?_⟩⟩
        exact ⟨_, rfl, _, rfl, d, ls, lt, R, s, st, hs, ps, rows, rfl, DD.same s11, WW.same s11, by omega, fun H12 _ => k H12⟩
end
end Hd
set_option maxHeartbeats 4000000
namespace Hd
open PySem PySem.Spec PyProof.Rows L2
abbrev s_HeapError_init : Stmt := inClass (top 1) 0
theorem sup_mk {prog : Program} {K : PySem.W.Frag} {fI HE cc cda : Addr} {oc kV dc pm ct ccl cl : Value} {od an cdd cld : Option Addr} {osl ccs csl : Array (Option Value)} {vs : Array Value} {file : Str} {tf : Tok} {cdD : ClassData}
    (tI : PySem.W.typeIn K (.ref fI) = some (.type "function"))
    (lI : K.lookup fI = some ⟨oc, od, .func (PySem.W.fnX "__init__" "HeapError.__init__" (defArgs s_HeapError_init) (defBody s_HeapError_init) (defScope s_HeapError_init) [("__class__", cc)] .none kV dc pm an (.ref cda) ct), osl⟩)
    (cI : PySem.W.codeIn K (.ref cda) "HeapError.__init__" = true) (lcda : K.lookup cda = some ⟨ccl, cdd, .fields vs, ccs⟩) (hvs : vs[2]? = some (.str file tf)) (hfile : ((prog.main.file : Str) == file) = true)
    (lcc : K.lookup cc = some ⟨cl, cld, .cell (some (.ref HE)), csl⟩) (hD : PySem.W.clsIn K HE = some cdD) (zs : PySem.W.nsIn K mainGlobals "super" = some none) (thr : PySem.W.nsIn K cStatics "thirdparty.any" = some none)
    (top : (prog.main.scope.names.lookup ("super" : Str)).isSome = false) : SupDef prog K fI HE :=
  ⟨⟨oc, od, an, defArgs s_HeapError_init, "HeapError.__init__", .none, kV, dc, pm, ct, cc, cda, osl, _, _, _, _, _, _, ccl, cl, cdd, cld, vs, ccs, csl, file, tf, cdD, lI, cI, rfl, rfl, fun v => rfl, fun L => ⟨_, rfl⟩, lcda, hvs, hfile, lcc, hD⟩, tI, zs, thr, top⟩
end Hd
set_option maxHeartbeats 8000000
namespace Hd
open PySem PySem.Spec PyProof.Rows L2
theorem all_mk {l : PySem.W.OpenLaw} {w : World} {K : PySem.W.Frag} {h : Heap} {mg : Str → Option Value} {fa : Addr} (X : K.In h) (G : h.Ns mainGlobals mg) (hfa : mg "law" = some (.ref fa))
    {HE f_HI cc cda : Addr} {ocI kVI dcI pmI ctI ccl cl : Value} {odI anI cdd cld : Option Addr} {oslI ccs csl : Array (Option Value)} {vs : Array Value} {file : Str} {tf : Tok} {cdD : ClassData}
    {A_BadHeaps N_BadHeaps : Addr} {nm_BadHeaps q_BadHeaps : Str} {bs_BadHeaps sub_BadHeaps : List Value} {sn_BadHeaps : List Str} {ab_BadHeaps : Bool} {col_BadHeaps : Option Bool} {dd_BadHeaps : Option Addr} {m0_BadHeaps m1_BadHeaps m2_BadHeaps m3_BadHeaps m5_BadHeaps : Option Value}
    (x_BadHeaps : PySem.W.nsIn K mainGlobals "BadHeaps" = some (some (.ref A_BadHeaps)))
    (xL_BadHeaps : K.lookup A_BadHeaps = some (excClassObj nm_BadHeaps q_BadHeaps A_BadHeaps N_BadHeaps bs_BadHeaps [.ref HE, .type "ValueError", .type "Exception", .type "BaseException", .type "object"] true sn_BadHeaps sub_BadHeaps ab_BadHeaps col_BadHeaps dd_BadHeaps m0_BadHeaps m1_BadHeaps m2_BadHeaps m3_BadHeaps m5_BadHeaps "ValueError.__new__"))
    (iHI_BadHeaps : PySem.W.findIn K (.ref A_BadHeaps) "__init__" = some (some (.ref f_HI)))
    (tI : PySem.W.typeIn K (.ref f_HI) = some (.type "function"))
    (lI : K.lookup f_HI = some ⟨ocI, odI, .func (PySem.W.fnX "__init__" "HeapError.__init__" (defArgs s_HeapError_init) (defBody s_HeapError_init) (defScope s_HeapError_init) [("__class__", cc)] .none kVI dcI pmI anI (.ref cda) ctI), oslI⟩)
    (cI : PySem.W.codeIn K (.ref cda) "HeapError.__init__" = true)
    (lcda : K.lookup cda = some ⟨ccl, cdd, .fields vs, ccs⟩)
    (hvs : vs[2]? = some (.str file tf))
    (hfile : ((l.prog.main.file : Str) == file) = true)
    (lcc : K.lookup cc = some ⟨cl, cld, .cell (some (.ref HE)), csl⟩)
    (hD : PySem.W.clsIn K HE = some cdD)
    (thr : PySem.W.nsIn K cStatics "thirdparty.any" = some none)
    (topN : (l.prog.main.scope.names.lookup ("super" : Str)).isSome = false)
    (z_super : PySem.W.nsIn K mainGlobals "super" = some none)
    (supI_BadHeaps : PySem.W.ks_superIn K A_BadHeaps HE "__init__" = some (some (.builtin "ValueError.__init__")))
    (mroI_BadHeaps : PySem.W.mroIn K A_BadHeaps (.ref HE) = some true)
    (veI_BadHeaps : PySem.W.subIn K (.ref A_BadHeaps) (.type "ValueError") = some true)
    (xinI_BadHeaps : PySem.W.excInitIn K A_BadHeaps [.type "ValueError", .type "Exception", .type "BaseException", .type "object"] "ValueError.__new__" = true)
    (kC_BadHeaps : PySem.W.keepIn K (.ref A_BadHeaps) = true)
    (eC_BadHeaps : PySem.W.subIn K (.ref A_BadHeaps) (.type "BaseException") = some true)
    (tC_BadHeaps : PySem.W.typeIn K (.ref A_BadHeaps) = some (.type "type"))
    (iC_BadHeaps : PySem.W.isClsIn K A_BadHeaps = true)
    (sC_BadHeaps : PySem.W.subIn K (.ref A_BadHeaps) (.ref A_BadHeaps) = some true)
    {A_BadStep N_BadStep : Addr} {nm_BadStep q_BadStep : Str} {bs_BadStep sub_BadStep : List Value} {sn_BadStep : List Str} {ab_BadStep : Bool} {col_BadStep : Option Bool} {dd_BadStep : Option Addr} {m0_BadStep m1_BadStep m2_BadStep m3_BadStep m5_BadStep : Option Value}
    (x_BadStep : PySem.W.nsIn K mainGlobals "BadStep" = some (some (.ref A_BadStep)))
    (xL_BadStep : K.lookup A_BadStep = some (excClassObj nm_BadStep q_BadStep A_BadStep N_BadStep bs_BadStep [.ref HE, .type "ValueError", .type "Exception", .type "BaseException", .type "object"] true sn_BadStep sub_BadStep ab_BadStep col_BadStep dd_BadStep m0_BadStep m1_BadStep m2_BadStep m3_BadStep m5_BadStep "ValueError.__new__"))
    (iHI_BadStep : PySem.W.findIn K (.ref A_BadStep) "__init__" = some (some (.ref f_HI)))
    (supI_BadStep : PySem.W.ks_superIn K A_BadStep HE "__init__" = some (some (.builtin "ValueError.__init__")))
    (mroI_BadStep : PySem.W.mroIn K A_BadStep (.ref HE) = some true)
    (veI_BadStep : PySem.W.subIn K (.ref A_BadStep) (.type "ValueError") = some true)
    (xinI_BadStep : PySem.W.excInitIn K A_BadStep [.type "ValueError", .type "Exception", .type "BaseException", .type "object"] "ValueError.__new__" = true)
    (kC_BadStep : PySem.W.keepIn K (.ref A_BadStep) = true)
    (eC_BadStep : PySem.W.subIn K (.ref A_BadStep) (.type "BaseException") = some true)
    (tC_BadStep : PySem.W.typeIn K (.ref A_BadStep) = some (.type "type"))
    (iC_BadStep : PySem.W.isClsIn K A_BadStep = true)
    (sC_BadStep : PySem.W.subIn K (.ref A_BadStep) (.ref A_BadStep) = some true)
    {A_Full N_Full : Addr} {nm_Full q_Full : Str} {bs_Full sub_Full : List Value} {sn_Full : List Str} {ab_Full : Bool} {col_Full : Option Bool} {dd_Full : Option Addr} {m0_Full m1_Full m2_Full m3_Full m5_Full : Option Value}
    (x_Full : PySem.W.nsIn K mainGlobals "Full" = some (some (.ref A_Full)))
    (xL_Full : K.lookup A_Full = some (excClassObj nm_Full q_Full A_Full N_Full bs_Full [.ref HE, .type "ValueError", .type "Exception", .type "BaseException", .type "object"] true sn_Full sub_Full ab_Full col_Full dd_Full m0_Full m1_Full m2_Full m3_Full m5_Full "ValueError.__new__"))
    (iHI_Full : PySem.W.findIn K (.ref A_Full) "__init__" = some (some (.ref f_HI)))
    (supI_Full : PySem.W.ks_superIn K A_Full HE "__init__" = some (some (.builtin "ValueError.__init__")))
    (mroI_Full : PySem.W.mroIn K A_Full (.ref HE) = some true)
    (veI_Full : PySem.W.subIn K (.ref A_Full) (.type "ValueError") = some true)
    (xinI_Full : PySem.W.excInitIn K A_Full [.type "ValueError", .type "Exception", .type "BaseException", .type "object"] "ValueError.__new__" = true)
    (kC_Full : PySem.W.keepIn K (.ref A_Full) = true)
    (eC_Full : PySem.W.subIn K (.ref A_Full) (.type "BaseException") = some true)
    (tC_Full : PySem.W.typeIn K (.ref A_Full) = some (.type "type"))
    (iC_Full : PySem.W.isClsIn K A_Full = true)
    (sC_Full : PySem.W.subIn K (.ref A_Full) (.ref A_Full) = some true)
    {A_Desk : Addr}
    (x_Desk : PySem.W.nsIn K mainGlobals "Desk" = some (some (.ref A_Desk)))
    (pg_Desk : PySem.W.plainGet K A_Desk Str.empty = true) (hd_Desk : PySem.W.hasDictIn K A_Desk = true) (po_Desk : PySem.W.plainOver K A_Desk = true)
    (sa_Desk : PySem.W.findIn K (.ref A_Desk) "__setattr__" = some (some (.builtin "object.__setattr__"))) (mk_Desk : PySem.W.makesIn K A_Desk = true) (kc_Desk : PySem.W.keepIn K (.ref A_Desk) = true)
    (na_Desk__stands : PySem.W.findIn K (.ref A_Desk) "_stands" = some none)
    (na_Desk__steps : PySem.W.findIn K (.ref A_Desk) "_steps" = some none)
    {od_is_integer an_is_integer : Option Addr} {sl_is_integer : Array (Option Value)} {oc_is_integer kV_is_integer dc_is_integer pm_is_integer cd_is_integer ct_is_integer : Value} {f_is_integer : Addr}
    (a_is_integer : PySem.W.nsIn K mainGlobals "is_integer" = some (some (.ref f_is_integer)))
    (l_is_integer : K.lookup f_is_integer = some ⟨oc_is_integer, od_is_integer, .func (PySem.W.fnOf "is_integer" "is_integer" (defArgs s_is_integer) (defBody s_is_integer) (defScope s_is_integer) .none kV_is_integer dc_is_integer pm_is_integer an_is_integer cd_is_integer ct_is_integer), sl_is_integer⟩)
    (c_is_integer : PySem.W.codeIn K cd_is_integer "is_integer" = true) (k_is_integer : PySem.W.keepIn K (.ref f_is_integer) = true)
    {od_is_heaps an_is_heaps : Option Addr} {sl_is_heaps : Array (Option Value)} {oc_is_heaps kV_is_heaps dc_is_heaps pm_is_heaps cd_is_heaps ct_is_heaps : Value} {f_is_heaps : Addr}
    (a_is_heaps : PySem.W.nsIn K mainGlobals "is_heaps" = some (some (.ref f_is_heaps)))
    (l_is_heaps : K.lookup f_is_heaps = some ⟨oc_is_heaps, od_is_heaps, .func (PySem.W.fnOf "is_heaps" "is_heaps" (defArgs s_is_heaps) (defBody s_is_heaps) (defScope s_is_heaps) .none kV_is_heaps dc_is_heaps pm_is_heaps an_is_heaps cd_is_heaps ct_is_heaps), sl_is_heaps⟩)
    (c_is_heaps : PySem.W.codeIn K cd_is_heaps "is_heaps" = true) (k_is_heaps : PySem.W.keepIn K (.ref f_is_heaps) = true)
    {od_check_heaps an_check_heaps : Option Addr} {sl_check_heaps : Array (Option Value)} {oc_check_heaps kV_check_heaps dc_check_heaps pm_check_heaps cd_check_heaps ct_check_heaps : Value} {f_check_heaps : Addr}
    (a_check_heaps : PySem.W.nsIn K mainGlobals "check_heaps" = some (some (.ref f_check_heaps)))
    (l_check_heaps : K.lookup f_check_heaps = some ⟨oc_check_heaps, od_check_heaps, .func (PySem.W.fnOf "check_heaps" "check_heaps" (defArgs s_check_heaps) (defBody s_check_heaps) (defScope s_check_heaps) .none kV_check_heaps dc_check_heaps pm_check_heaps an_check_heaps cd_check_heaps ct_check_heaps), sl_check_heaps⟩)
    (c_check_heaps : PySem.W.codeIn K cd_check_heaps "check_heaps" = true) (k_check_heaps : PySem.W.keepIn K (.ref f_check_heaps) = true)
    {od_is_pair_of an_is_pair_of : Option Addr} {sl_is_pair_of : Array (Option Value)} {oc_is_pair_of kV_is_pair_of dc_is_pair_of pm_is_pair_of cd_is_pair_of ct_is_pair_of : Value} {f_is_pair_of : Addr}
    (a_is_pair_of : PySem.W.nsIn K mainGlobals "is_pair_of" = some (some (.ref f_is_pair_of)))
    (l_is_pair_of : K.lookup f_is_pair_of = some ⟨oc_is_pair_of, od_is_pair_of, .func (PySem.W.fnOf "is_pair_of" "is_pair_of" (defArgs s_is_pair_of) (defBody s_is_pair_of) (defScope s_is_pair_of) .none kV_is_pair_of dc_is_pair_of pm_is_pair_of an_is_pair_of cd_is_pair_of ct_is_pair_of), sl_is_pair_of⟩)
    (c_is_pair_of : PySem.W.codeIn K cd_is_pair_of "is_pair_of" = true) (k_is_pair_of : PySem.W.keepIn K (.ref f_is_pair_of) = true)
    {od_can_be_made an_can_be_made : Option Addr} {sl_can_be_made : Array (Option Value)} {oc_can_be_made kV_can_be_made dc_can_be_made pm_can_be_made cd_can_be_made ct_can_be_made : Value} {f_can_be_made : Addr}
    (a_can_be_made : PySem.W.nsIn K mainGlobals "can_be_made" = some (some (.ref f_can_be_made)))
    (l_can_be_made : K.lookup f_can_be_made = some ⟨oc_can_be_made, od_can_be_made, .func (PySem.W.fnOf "can_be_made" "can_be_made" (defArgs s_can_be_made) (defBody s_can_be_made) (defScope s_can_be_made) .none kV_can_be_made dc_can_be_made pm_can_be_made an_can_be_made cd_can_be_made ct_can_be_made), sl_can_be_made⟩)
    (c_can_be_made : PySem.W.codeIn K cd_can_be_made "can_be_made" = true) (k_can_be_made : PySem.W.keepIn K (.ref f_can_be_made) = true)
    {od_shifted an_shifted : Option Addr} {sl_shifted : Array (Option Value)} {oc_shifted kV_shifted dc_shifted pm_shifted cd_shifted ct_shifted : Value} {f_shifted : Addr}
    (a_shifted : PySem.W.nsIn K mainGlobals "shifted" = some (some (.ref f_shifted)))
    (l_shifted : K.lookup f_shifted = some ⟨oc_shifted, od_shifted, .func (PySem.W.fnOf "shifted" "shifted" (defArgs s_shifted) (defBody s_shifted) (defScope s_shifted) .none kV_shifted dc_shifted pm_shifted an_shifted cd_shifted ct_shifted), sl_shifted⟩)
    (c_shifted : PySem.W.codeIn K cd_shifted "shifted" = true) (k_shifted : PySem.W.keepIn K (.ref f_shifted) = true)
    {od_behind an_behind : Option Addr} {sl_behind : Array (Option Value)} {oc_behind kV_behind dc_behind pm_behind cd_behind ct_behind : Value} {f_behind : Addr}
    (a_behind : PySem.W.nsIn K mainGlobals "behind" = some (some (.ref f_behind)))
    (l_behind : K.lookup f_behind = some ⟨oc_behind, od_behind, .func (PySem.W.fnOf "behind" "behind" (defArgs s_behind) (defBody s_behind) (defScope s_behind) .none kV_behind dc_behind pm_behind an_behind cd_behind ct_behind), sl_behind⟩)
    (c_behind : PySem.W.codeIn K cd_behind "behind" = true) (k_behind : PySem.W.keepIn K (.ref f_behind) = true)
    {od_check_step an_check_step : Option Addr} {sl_check_step : Array (Option Value)} {oc_check_step kV_check_step dc_check_step pm_check_step cd_check_step ct_check_step : Value} {f_check_step : Addr}
    (a_check_step : PySem.W.nsIn K mainGlobals "check_step" = some (some (.ref f_check_step)))
    (l_check_step : K.lookup f_check_step = some ⟨oc_check_step, od_check_step, .func (PySem.W.fnOf "check_step" "check_step" (defArgs s_check_step) (defBody s_check_step) (defScope s_check_step) .none kV_check_step dc_check_step pm_check_step an_check_step cd_check_step ct_check_step), sl_check_step⟩)
    (c_check_step : PySem.W.codeIn K cd_check_step "check_step" = true) (k_check_step : PySem.W.keepIn K (.ref f_check_step) = true)
    {od_Desk_init an_Desk_init : Option Addr} {sl_Desk_init : Array (Option Value)} {oc_Desk_init kV_Desk_init dc_Desk_init pm_Desk_init cd_Desk_init ct_Desk_init : Value} {f_Desk_init : Addr}
    (a_Desk_init : PySem.W.findIn K (.ref A_Desk) "__init__" = some (some (.ref f_Desk_init)))
    (i_Desk_init : PySem.W.isFn K (.ref f_Desk_init) = true)
    (l_Desk_init : K.lookup f_Desk_init = some ⟨oc_Desk_init, od_Desk_init, .func (PySem.W.fnOf "__init__" "Desk.__init__" (defArgs s_Desk_init) (defBody s_Desk_init) (defScope s_Desk_init) .none kV_Desk_init dc_Desk_init pm_Desk_init an_Desk_init cd_Desk_init ct_Desk_init), sl_Desk_init⟩)
    (c_Desk_init : PySem.W.codeIn K cd_Desk_init "Desk.__init__" = true) (k_Desk_init : PySem.W.keepIn K (.ref f_Desk_init) = true)
    {od_Desk_heaps an_Desk_heaps : Option Addr} {sl_Desk_heaps : Array (Option Value)} {oc_Desk_heaps kV_Desk_heaps dc_Desk_heaps pm_Desk_heaps cd_Desk_heaps ct_Desk_heaps : Value} {f_Desk_heaps : Addr}
    {p_Desk_heaps : Addr} {rest_Desk_heaps : List Value}
    (a_Desk_heaps : PySem.W.findIn K (.ref A_Desk) "heaps" = some (some (.ref p_Desk_heaps)))
    (g_Desk_heaps : PySem.W.specialIn K (.ref p_Desk_heaps) "__get__" = some (some (.builtin "property.__get__"))) (h_Desk_heaps : PySem.W.takesIn K (.ref p_Desk_heaps) = some true)
    (r_Desk_heaps : PySem.W.recIn K p_Desk_heaps "property" = some (.ref f_Desk_heaps :: rest_Desk_heaps))
    (i_Desk_heaps : PySem.W.isFn K (.ref f_Desk_heaps) = true)
    (l_Desk_heaps : K.lookup f_Desk_heaps = some ⟨oc_Desk_heaps, od_Desk_heaps, .func (PySem.W.fnOf "heaps" "Desk.heaps" (defArgs s_Desk_heaps) (defBody s_Desk_heaps) (defScope s_Desk_heaps) .none kV_Desk_heaps dc_Desk_heaps pm_Desk_heaps an_Desk_heaps cd_Desk_heaps ct_Desk_heaps), sl_Desk_heaps⟩)
    (c_Desk_heaps : PySem.W.codeIn K cd_Desk_heaps "Desk.heaps" = true) (k_Desk_heaps : PySem.W.keepIn K (.ref f_Desk_heaps) = true)
    {od_Desk_plan an_Desk_plan : Option Addr} {sl_Desk_plan : Array (Option Value)} {oc_Desk_plan kV_Desk_plan dc_Desk_plan pm_Desk_plan cd_Desk_plan ct_Desk_plan : Value} {f_Desk_plan : Addr}
    {p_Desk_plan : Addr} {rest_Desk_plan : List Value}
    (a_Desk_plan : PySem.W.findIn K (.ref A_Desk) "plan" = some (some (.ref p_Desk_plan)))
    (g_Desk_plan : PySem.W.specialIn K (.ref p_Desk_plan) "__get__" = some (some (.builtin "property.__get__"))) (h_Desk_plan : PySem.W.takesIn K (.ref p_Desk_plan) = some true)
    (r_Desk_plan : PySem.W.recIn K p_Desk_plan "property" = some (.ref f_Desk_plan :: rest_Desk_plan))
    (i_Desk_plan : PySem.W.isFn K (.ref f_Desk_plan) = true)
    (l_Desk_plan : K.lookup f_Desk_plan = some ⟨oc_Desk_plan, od_Desk_plan, .func (PySem.W.fnOf "plan" "Desk.plan" (defArgs s_Desk_plan) (defBody s_Desk_plan) (defScope s_Desk_plan) .none kV_Desk_plan dc_Desk_plan pm_Desk_plan an_Desk_plan cd_Desk_plan ct_Desk_plan), sl_Desk_plan⟩)
    (c_Desk_plan : PySem.W.codeIn K cd_Desk_plan "Desk.plan" = true) (k_Desk_plan : PySem.W.keepIn K (.ref f_Desk_plan) = true)
    {od_Desk_move an_Desk_move : Option Addr} {sl_Desk_move : Array (Option Value)} {oc_Desk_move kV_Desk_move dc_Desk_move pm_Desk_move cd_Desk_move ct_Desk_move : Value} {f_Desk_move : Addr}
    (a_Desk_move : PySem.W.findIn K (.ref A_Desk) "move" = some (some (.ref f_Desk_move)))
    (i_Desk_move : PySem.W.isFn K (.ref f_Desk_move) = true)
    (l_Desk_move : K.lookup f_Desk_move = some ⟨oc_Desk_move, od_Desk_move, .func (PySem.W.fnOf "move" "Desk.move" (defArgs s_Desk_move) (defBody s_Desk_move) (defScope s_Desk_move) .none kV_Desk_move dc_Desk_move pm_Desk_move an_Desk_move cd_Desk_move ct_Desk_move), sl_Desk_move⟩)
    (c_Desk_move : PySem.W.codeIn K cd_Desk_move "Desk.move" = true) (k_Desk_move : PySem.W.keepIn K (.ref f_Desk_move) = true)
    {od_Desk_empties an_Desk_empties : Option Addr} {sl_Desk_empties : Array (Option Value)} {oc_Desk_empties kV_Desk_empties dc_Desk_empties pm_Desk_empties cd_Desk_empties ct_Desk_empties : Value} {f_Desk_empties : Addr}
    (a_Desk_empties : PySem.W.findIn K (.ref A_Desk) "empties" = some (some (.ref f_Desk_empties)))
    (i_Desk_empties : PySem.W.isFn K (.ref f_Desk_empties) = true)
    (l_Desk_empties : K.lookup f_Desk_empties = some ⟨oc_Desk_empties, od_Desk_empties, .func (PySem.W.fnOf "empties" "Desk.empties" (defArgs s_Desk_empties) (defBody s_Desk_empties) (defScope s_Desk_empties) .none kV_Desk_empties dc_Desk_empties pm_Desk_empties an_Desk_empties cd_Desk_empties ct_Desk_empties), sl_Desk_empties⟩)
    (c_Desk_empties : PySem.W.codeIn K cd_Desk_empties "Desk.empties" = true) (k_Desk_empties : PySem.W.keepIn K (.ref f_Desk_empties) = true)
    {od_Desk_undo an_Desk_undo : Option Addr} {sl_Desk_undo : Array (Option Value)} {oc_Desk_undo kV_Desk_undo dc_Desk_undo pm_Desk_undo cd_Desk_undo ct_Desk_undo : Value} {f_Desk_undo : Addr}
    (a_Desk_undo : PySem.W.findIn K (.ref A_Desk) "undo" = some (some (.ref f_Desk_undo)))
    (i_Desk_undo : PySem.W.isFn K (.ref f_Desk_undo) = true)
    (l_Desk_undo : K.lookup f_Desk_undo = some ⟨oc_Desk_undo, od_Desk_undo, .func (PySem.W.fnOf "undo" "Desk.undo" (defArgs s_Desk_undo) (defBody s_Desk_undo) (defScope s_Desk_undo) .none kV_Desk_undo dc_Desk_undo pm_Desk_undo an_Desk_undo cd_Desk_undo ct_Desk_undo), sl_Desk_undo⟩)
    (c_Desk_undo : PySem.W.codeIn K cd_Desk_undo "Desk.undo" = true) (k_Desk_undo : PySem.W.keepIn K (.ref f_Desk_undo) = true)
    {od_Desk___len__ an_Desk___len__ : Option Addr} {sl_Desk___len__ : Array (Option Value)} {oc_Desk___len__ kV_Desk___len__ dc_Desk___len__ pm_Desk___len__ cd_Desk___len__ ct_Desk___len__ : Value} {f_Desk___len__ : Addr}
    (a_Desk___len__ : PySem.W.findIn K (.ref A_Desk) "__len__" = some (some (.ref f_Desk___len__)))
    (i_Desk___len__ : PySem.W.isFn K (.ref f_Desk___len__) = true)
    (l_Desk___len__ : K.lookup f_Desk___len__ = some ⟨oc_Desk___len__, od_Desk___len__, .func (PySem.W.fnOf "__len__" "Desk.__len__" (defArgs s_Desk___len__) (defBody s_Desk___len__) (defScope s_Desk___len__) .none kV_Desk___len__ dc_Desk___len__ pm_Desk___len__ an_Desk___len__ cd_Desk___len__ ct_Desk___len__), sl_Desk___len__⟩)
    (c_Desk___len__ : PySem.W.codeIn K cd_Desk___len__ "Desk.__len__" = true) (k_Desk___len__ : PySem.W.keepIn K (.ref f_Desk___len__) = true)
    {od_Desk_copy an_Desk_copy : Option Addr} {sl_Desk_copy : Array (Option Value)} {oc_Desk_copy kV_Desk_copy dc_Desk_copy pm_Desk_copy cd_Desk_copy ct_Desk_copy : Value} {f_Desk_copy : Addr}
    (a_Desk_copy : PySem.W.findIn K (.ref A_Desk) "copy" = some (some (.ref f_Desk_copy)))
    (i_Desk_copy : PySem.W.isFn K (.ref f_Desk_copy) = true)
    (l_Desk_copy : K.lookup f_Desk_copy = some ⟨oc_Desk_copy, od_Desk_copy, .func (PySem.W.fnOf "copy" "Desk.copy" (defArgs s_Desk_copy) (defBody s_Desk_copy) (defScope s_Desk_copy) .none kV_Desk_copy dc_Desk_copy pm_Desk_copy an_Desk_copy cd_Desk_copy ct_Desk_copy), sl_Desk_copy⟩)
    (c_Desk_copy : PySem.W.codeIn K cd_Desk_copy "Desk.copy" = true) (k_Desk_copy : PySem.W.keepIn K (.ref f_Desk_copy) = true)
    {od_l_mix an_l_mix : Option Addr} {sl_l_mix : Array (Option Value)} {oc_l_mix kV_l_mix dc_l_mix pm_l_mix cd_l_mix ct_l_mix : Value} {f_l_mix : Addr}
    (a_l_mix : PySem.W.nsIn K mainGlobals "_law_mix" = some (some (.ref f_l_mix)))
    (l_l_mix : K.lookup f_l_mix = some ⟨oc_l_mix, od_l_mix, .func (PySem.W.fnOf "_law_mix" "_law_mix" (defArgs s_l_mix) (defBody s_l_mix) (defScope s_l_mix) .none kV_l_mix dc_l_mix pm_l_mix an_l_mix cd_l_mix ct_l_mix), sl_l_mix⟩)
    (c_l_mix : PySem.W.codeIn K cd_l_mix "_law_mix" = true) (k_l_mix : PySem.W.keepIn K (.ref f_l_mix) = true)
    {od_l_next an_l_next : Option Addr} {sl_l_next : Array (Option Value)} {oc_l_next kV_l_next dc_l_next pm_l_next cd_l_next ct_l_next : Value} {f_l_next : Addr}
    (a_l_next : PySem.W.nsIn K mainGlobals "_law_next" = some (some (.ref f_l_next)))
    (l_l_next : K.lookup f_l_next = some ⟨oc_l_next, od_l_next, .func (PySem.W.fnOf "_law_next" "_law_next" (defArgs s_l_next) (defBody s_l_next) (defScope s_l_next) .none kV_l_next dc_l_next pm_l_next an_l_next cd_l_next ct_l_next), sl_l_next⟩)
    (c_l_next : PySem.W.codeIn K cd_l_next "_law_next" = true) (k_l_next : PySem.W.keepIn K (.ref f_l_next) = true)
    {od_l_heaps an_l_heaps : Option Addr} {sl_l_heaps : Array (Option Value)} {oc_l_heaps kV_l_heaps dc_l_heaps pm_l_heaps cd_l_heaps ct_l_heaps : Value} {f_l_heaps : Addr}
    (a_l_heaps : PySem.W.nsIn K mainGlobals "_law_heaps" = some (some (.ref f_l_heaps)))
    (l_l_heaps : K.lookup f_l_heaps = some ⟨oc_l_heaps, od_l_heaps, .func (PySem.W.fnOf "_law_heaps" "_law_heaps" (defArgs s_l_heaps) (defBody s_l_heaps) (defScope s_l_heaps) .none kV_l_heaps dc_l_heaps pm_l_heaps an_l_heaps cd_l_heaps ct_l_heaps), sl_l_heaps⟩)
    (c_l_heaps : PySem.W.codeIn K cd_l_heaps "_law_heaps" = true) (k_l_heaps : PySem.W.keepIn K (.ref f_l_heaps) = true)
    {od_l_can an_l_can : Option Addr} {sl_l_can : Array (Option Value)} {oc_l_can kV_l_can dc_l_can pm_l_can cd_l_can ct_l_can : Value} {f_l_can : Addr}
    (a_l_can : PySem.W.nsIn K mainGlobals "_law_can" = some (some (.ref f_l_can)))
    (l_l_can : K.lookup f_l_can = some ⟨oc_l_can, od_l_can, .func (PySem.W.fnOf "_law_can" "_law_can" (defArgs s_l_can) (defBody s_l_can) (defScope s_l_can) .none kV_l_can dc_l_can pm_l_can an_l_can cd_l_can ct_l_can), sl_l_can⟩)
    (c_l_can : PySem.W.codeIn K cd_l_can "_law_can" = true) (k_l_can : PySem.W.keepIn K (.ref f_l_can) = true)
    {od_l_behind an_l_behind : Option Addr} {sl_l_behind : Array (Option Value)} {oc_l_behind kV_l_behind dc_l_behind pm_l_behind cd_l_behind ct_l_behind : Value} {f_l_behind : Addr}
    (a_l_behind : PySem.W.nsIn K mainGlobals "_law_behind" = some (some (.ref f_l_behind)))
    (l_l_behind : K.lookup f_l_behind = some ⟨oc_l_behind, od_l_behind, .func (PySem.W.fnOf "_law_behind" "_law_behind" (defArgs s_l_behind) (defBody s_l_behind) (defScope s_l_behind) .none kV_l_behind dc_l_behind pm_l_behind an_l_behind cd_l_behind ct_l_behind), sl_l_behind⟩)
    (c_l_behind : PySem.W.codeIn K cd_l_behind "_law_behind" = true) (k_l_behind : PySem.W.keepIn K (.ref f_l_behind) = true)
    {od_l_pairs an_l_pairs : Option Addr} {sl_l_pairs : Array (Option Value)} {oc_l_pairs kV_l_pairs dc_l_pairs pm_l_pairs cd_l_pairs ct_l_pairs : Value} {f_l_pairs : Addr}
    (a_l_pairs : PySem.W.nsIn K mainGlobals "_law_pairs" = some (some (.ref f_l_pairs)))
    (l_l_pairs : K.lookup f_l_pairs = some ⟨oc_l_pairs, od_l_pairs, .func (PySem.W.fnOf "_law_pairs" "_law_pairs" (defArgs s_l_pairs) (defBody s_l_pairs) (defScope s_l_pairs) .none kV_l_pairs dc_l_pairs pm_l_pairs an_l_pairs cd_l_pairs ct_l_pairs), sl_l_pairs⟩)
    (c_l_pairs : PySem.W.codeIn K cd_l_pairs "_law_pairs" = true) (k_l_pairs : PySem.W.keepIn K (.ref f_l_pairs) = true)
    {od_l_moved an_l_moved : Option Addr} {sl_l_moved : Array (Option Value)} {oc_l_moved kV_l_moved dc_l_moved pm_l_moved cd_l_moved ct_l_moved : Value} {f_l_moved : Addr}
    (a_l_moved : PySem.W.nsIn K mainGlobals "_law_moved" = some (some (.ref f_l_moved)))
    (l_l_moved : K.lookup f_l_moved = some ⟨oc_l_moved, od_l_moved, .func (PySem.W.fnOf "_law_moved" "_law_moved" (defArgs s_l_moved) (defBody s_l_moved) (defScope s_l_moved) .none kV_l_moved dc_l_moved pm_l_moved an_l_moved cd_l_moved ct_l_moved), sl_l_moved⟩)
    (c_l_moved : PySem.W.codeIn K cd_l_moved "_law_moved" = true) (k_l_moved : PySem.W.keepIn K (.ref f_l_moved) = true)
    {od_l_stands an_l_stands : Option Addr} {sl_l_stands : Array (Option Value)} {oc_l_stands kV_l_stands dc_l_stands pm_l_stands cd_l_stands ct_l_stands : Value} {f_l_stands : Addr}
    (a_l_stands : PySem.W.nsIn K mainGlobals "_law_stands" = some (some (.ref f_l_stands)))
    (l_l_stands : K.lookup f_l_stands = some ⟨oc_l_stands, od_l_stands, .func (PySem.W.fnOf "_law_stands" "_law_stands" (defArgs s_l_stands) (defBody s_l_stands) (defScope s_l_stands) .none kV_l_stands dc_l_stands pm_l_stands an_l_stands cd_l_stands ct_l_stands), sl_l_stands⟩)
    (c_l_stands : PySem.W.codeIn K cd_l_stands "_law_stands" = true) (k_l_stands : PySem.W.keepIn K (.ref f_l_stands) = true)
    {od_law an_law : Option Addr} {sl_law : Array (Option Value)} {oc_law kV_law dc_law pm_law cd_law ct_law : Value} {f_law : Addr}
    (a_law : PySem.W.nsIn K mainGlobals "law" = some (some (.ref f_law)))
    (l_law : K.lookup f_law = some ⟨oc_law, od_law, .func (PySem.W.fnOf "law" "law" (defArgs s_law) (defBody s_law) (defScope s_law) .none kV_law dc_law pm_law an_law cd_law ct_law), sl_law⟩)
    (c_law : PySem.W.codeIn K cd_law "law" = true) (k_law : PySem.W.keepIn K (.ref f_law) = true)
    (z_int : PySem.W.nsIn K mainGlobals "int" = some none)
    (z_bool : PySem.W.nsIn K mainGlobals "bool" = some none)
    (z_list : PySem.W.nsIn K mainGlobals "list" = some none)
    (z_len : PySem.W.nsIn K mainGlobals "len" = some none)
    (z_tuple : PySem.W.nsIn K mainGlobals "tuple" = some none)
    (z_isinstance : PySem.W.nsIn K mainGlobals "isinstance" = some none)
    (z_all : PySem.W.nsIn K mainGlobals "all" = some none)
    (z_any : PySem.W.nsIn K mainGlobals "any" = some none)
    (z_sum : PySem.W.nsIn K mainGlobals "sum" = some none)
    (z_enumerate : PySem.W.nsIn K mainGlobals "enumerate" = some none)
    (z_range : PySem.W.nsIn K mainGlobals "range" = some none)
    (z_sorted : PySem.W.nsIn K mainGlobals "sorted" = some none)
    (z_set : PySem.W.nsIn K mainGlobals "set" = some none)
    (z_max : PySem.W.nsIn K mainGlobals "max" = some none)
    (z_min : PySem.W.nsIn K mainGlobals "min" = some none)
    (z_str : PySem.W.nsIn K mainGlobals "str" = some none)
    {tk_FEWEST_HEAPS : Tok} (w_FEWEST_HEAPS : PySem.W.nsIn K mainGlobals "FEWEST_HEAPS" = some (some (.int 2 tk_FEWEST_HEAPS)))
    {tk_MOST_HEAPS : Tok} (w_MOST_HEAPS : PySem.W.nsIn K mainGlobals "MOST_HEAPS" = some (some (.int 6 tk_MOST_HEAPS)))
    {tk_GREATEST : Tok} (w_GREATEST : PySem.W.nsIn K mainGlobals "GREATEST" = some (some (.int 1000000000000000000000000000000 tk_GREATEST)))
    {tk_MOST_STEPS : Tok} (w_MOST_STEPS : PySem.W.nsIn K mainGlobals "MOST_STEPS" = some (some (.int 100 tk_MOST_STEPS)))
    : ∃ fd : FuncData, (∀ (s : Shared) (v : Value), BindsTo s fd ⟨[v], []⟩ [("_law_script", v)]) ∧ ∀ base : Heap, K.In base → base.Ns mainGlobals mg → FnOk l.prog w K mg base CX0 8 fa fd ["_law_script"] (spLaw K) := by
  have e := hfa.symm.trans (PySem.W.mg_of X G a_law)
  cases e
  have F_is_integer := fun_mk (st := s_is_integer) l_is_integer c_is_integer k_is_integer
  have b_is_integer := F_is_integer.binds (ps := ["value", "least", "greatest"]) fun _ _ _ _ _ _ us hl => match us, hl with | [_, _, _], _ => rfl
  have F_is_heaps := fun_mk (st := s_is_heaps) l_is_heaps c_is_heaps k_is_heaps
  have b_is_heaps := F_is_heaps.binds (ps := ["value"]) fun _ _ _ _ _ _ us hl => match us, hl with | [_], _ => rfl
  have F_check_heaps := fun_mk (st := s_check_heaps) l_check_heaps c_check_heaps k_check_heaps
  have b_check_heaps := F_check_heaps.binds (ps := ["heaps"]) fun _ _ _ _ _ _ us hl => match us, hl with | [_], _ => rfl
  have F_is_pair_of := fun_mk (st := s_is_pair_of) l_is_pair_of c_is_pair_of k_is_pair_of
  have b_is_pair_of := F_is_pair_of.binds (ps := ["many", "value"]) fun _ _ _ _ _ _ us hl => match us, hl with | [_, _], _ => rfl
  have F_can_be_made := fun_mk (st := s_can_be_made) l_can_be_made c_can_be_made k_can_be_made
  have b_can_be_made := F_can_be_made.binds (ps := ["heaps", "step"]) fun _ _ _ _ _ _ us hl => match us, hl with | [_, _], _ => rfl
  have F_shifted := fun_mk (st := s_shifted) l_shifted c_shifted k_shifted
  have b_shifted := F_shifted.binds (ps := ["heaps", "step", "many"]) fun _ _ _ _ _ _ us hl => match us, hl with | [_, _, _], _ => rfl
  have F_behind := fun_mk (st := s_behind) l_behind c_behind k_behind
  have b_behind := F_behind.binds (ps := ["heaps", "step"]) fun _ _ _ _ _ _ us hl => match us, hl with | [_, _], _ => rfl
  have F_check_step := fun_mk (st := s_check_step) l_check_step c_check_step k_check_step
  have b_check_step := F_check_step.binds (ps := ["heaps", "step"]) fun _ _ _ _ _ _ us hl => match us, hl with | [_, _], _ => rfl
  have F_Desk_init := fun_mk (st := s_Desk_init) l_Desk_init c_Desk_init k_Desk_init
  have b_Desk_init := F_Desk_init.binds (ps := ["self", "heaps"]) fun _ _ _ _ _ _ us hl => match us, hl with | [_, _], _ => rfl
  have F_Desk_heaps := fun_mk (st := s_Desk_heaps) l_Desk_heaps c_Desk_heaps k_Desk_heaps
  have b_Desk_heaps := F_Desk_heaps.binds (ps := ["self"]) fun _ _ _ _ _ _ us hl => match us, hl with | [_], _ => rfl
  have F_Desk_plan := fun_mk (st := s_Desk_plan) l_Desk_plan c_Desk_plan k_Desk_plan
  have b_Desk_plan := F_Desk_plan.binds (ps := ["self"]) fun _ _ _ _ _ _ us hl => match us, hl with | [_], _ => rfl
  have F_Desk_move := fun_mk (st := s_Desk_move) l_Desk_move c_Desk_move k_Desk_move
  have b_Desk_move := F_Desk_move.binds (ps := ["self", "one", "other"]) fun _ _ _ _ _ _ us hl => match us, hl with | [_, _, _], _ => rfl
  have F_Desk_empties := fun_mk (st := s_Desk_empties) l_Desk_empties c_Desk_empties k_Desk_empties
  have b_Desk_empties := F_Desk_empties.binds (ps := ["self"]) fun _ _ _ _ _ _ us hl => match us, hl with | [_], _ => rfl
  have F_Desk_undo := fun_mk (st := s_Desk_undo) l_Desk_undo c_Desk_undo k_Desk_undo
  have b_Desk_undo := F_Desk_undo.binds (ps := ["self"]) fun _ _ _ _ _ _ us hl => match us, hl with | [_], _ => rfl
  have F_Desk___len__ := fun_mk (st := s_Desk___len__) l_Desk___len__ c_Desk___len__ k_Desk___len__
  have b_Desk___len__ := F_Desk___len__.binds (ps := ["self"]) fun _ _ _ _ _ _ us hl => match us, hl with | [_], _ => rfl
  have F_Desk_copy := fun_mk (st := s_Desk_copy) l_Desk_copy c_Desk_copy k_Desk_copy
  have b_Desk_copy := F_Desk_copy.binds (ps := ["self"]) fun _ _ _ _ _ _ us hl => match us, hl with | [_], _ => rfl
  have F_l_mix := fun_mk (st := s_l_mix) l_l_mix c_l_mix k_l_mix
  have b_l_mix := F_l_mix.binds (ps := ["_law_script", "_law_seed"]) fun _ _ _ _ _ _ us hl => match us, hl with | [_, _], _ => rfl
  have F_l_next := fun_mk (st := s_l_next) l_l_next c_l_next k_l_next
  have b_l_next := F_l_next.binds (ps := ["_law_h", "_law_bound"]) fun _ _ _ _ _ _ us hl => match us, hl with | [_, _], _ => rfl
  have F_l_heaps := fun_mk (st := s_l_heaps) l_l_heaps c_l_heaps k_l_heaps
  have b_l_heaps := F_l_heaps.binds (ps := ["_law_h", "_law_least", "_law_most"]) fun _ _ _ _ _ _ us hl => match us, hl with | [_, _, _], _ => rfl
  have F_l_can := fun_mk (st := s_l_can) l_l_can c_l_can k_l_can
  have b_l_can := F_l_can.binds (ps := ["_law_heaps_here", "_law_step"]) fun _ _ _ _ _ _ us hl => match us, hl with | [_, _], _ => rfl
  have F_l_behind := fun_mk (st := s_l_behind) l_l_behind c_l_behind k_l_behind
  have b_l_behind := F_l_behind.binds (ps := ["_law_heaps_here", "_law_step"]) fun _ _ _ _ _ _ us hl => match us, hl with | [_, _], _ => rfl
  have F_l_pairs := fun_mk (st := s_l_pairs) l_l_pairs c_l_pairs k_l_pairs
  have b_l_pairs := F_l_pairs.binds (ps := ["_law_size"]) fun _ _ _ _ _ _ us hl => match us, hl with | [_], _ => rfl
  have F_l_moved := fun_mk (st := s_l_moved) l_l_moved c_l_moved k_l_moved
  have b_l_moved := F_l_moved.binds (ps := ["_law_desk", "_law_one", "_law_other"]) fun _ _ _ _ _ _ us hl => match us, hl with | [_, _, _], _ => rfl
  have F_l_stands := fun_mk (st := s_l_stands) l_l_stands c_l_stands k_l_stands
  have b_l_stands := F_l_stands.binds (ps := ["_law_desk", "_law_rows"]) fun _ _ _ _ _ _ us hl => match us, hl with | [_, _], _ => rfl
  have F_law := fun_mk (st := s_law) l_law c_law k_law
  have b_law := F_law.binds (ps := ["_law_script"]) fun _ _ _ _ _ _ us hl => match us, hl with | [_], _ => rfl
  have Z : Tz mg := ⟨PySem.W.mg_none_of X G z_int, PySem.W.mg_none_of X G z_bool, PySem.W.mg_none_of X G z_list, PySem.W.mg_none_of X G z_len, PySem.W.mg_none_of X G z_tuple, PySem.W.mg_none_of X G z_isinstance, PySem.W.mg_none_of X G z_all, PySem.W.mg_none_of X G z_any, PySem.W.mg_none_of X G z_sum, PySem.W.mg_none_of X G z_enumerate, PySem.W.mg_none_of X G z_range, PySem.W.mg_none_of X G z_sorted, PySem.W.mg_none_of X G z_set, PySem.W.mg_none_of X G z_max, PySem.W.mg_none_of X G z_min, PySem.W.mg_none_of X G z_str⟩
  have T : Tp mg := ⟨Z, ⟨_, PySem.W.mg_of X G w_FEWEST_HEAPS⟩, ⟨_, PySem.W.mg_of X G w_MOST_HEAPS⟩, ⟨_, PySem.W.mg_of X G w_GREATEST⟩⟩
  have U : Tx K mg := ⟨Z.int, Z.list, Z.max, Z.len, Z.tuple, Z.range⟩
  have B_BadHeaps : NilX l.prog K mg "BadHeaps" A_BadHeaps := ⟨PySem.W.mg_of X G x_BadHeaps, kC_BadHeaps, eC_BadHeaps, tC_BadHeaps, ⟨HE, f_HI, sup_mk tI lI cI lcda hvs hfile lcc hD z_super thr topN, ⟨⟨nm_BadHeaps, q_BadHeaps, N_BadHeaps, bs_BadHeaps, _, sn_BadHeaps, sub_BadHeaps, ab_BadHeaps, col_BadHeaps, dd_BadHeaps, m0_BadHeaps, m1_BadHeaps, m2_BadHeaps, m3_BadHeaps, m5_BadHeaps, xL_BadHeaps, rfl⟩, iHI_BadHeaps, supI_BadHeaps, mroI_BadHeaps, veI_BadHeaps, xinI_BadHeaps⟩⟩⟩
  have te_BadHeaps := exm_self eC_BadHeaps iC_BadHeaps tC_BadHeaps sC_BadHeaps
  have B_BadStep : NilX l.prog K mg "BadStep" A_BadStep := ⟨PySem.W.mg_of X G x_BadStep, kC_BadStep, eC_BadStep, tC_BadStep, ⟨HE, f_HI, sup_mk tI lI cI lcda hvs hfile lcc hD z_super thr topN, ⟨⟨nm_BadStep, q_BadStep, N_BadStep, bs_BadStep, _, sn_BadStep, sub_BadStep, ab_BadStep, col_BadStep, dd_BadStep, m0_BadStep, m1_BadStep, m2_BadStep, m3_BadStep, m5_BadStep, xL_BadStep, rfl⟩, iHI_BadStep, supI_BadStep, mroI_BadStep, veI_BadStep, xinI_BadStep⟩⟩⟩
  have te_BadStep := exm_self eC_BadStep iC_BadStep tC_BadStep sC_BadStep
  have B_Full : NilX l.prog K mg "Full" A_Full := ⟨PySem.W.mg_of X G x_Full, kC_Full, eC_Full, tC_Full, ⟨HE, f_HI, sup_mk tI lI cI lcda hvs hfile lcc hD z_super thr topN, ⟨⟨nm_Full, q_Full, N_Full, bs_Full, _, sn_Full, sub_Full, ab_Full, col_Full, dd_Full, m0_Full, m1_Full, m2_Full, m3_Full, m5_Full, xL_Full, rfl⟩, iHI_Full, supI_Full, mroI_Full, veI_Full, xinI_Full⟩⟩⟩
  have te_Full := exm_self eC_Full iC_Full tC_Full sC_Full
  have cl_Desk : Cls K A_Desk := ⟨pg_Desk, hd_Desk, po_Desk, sa_Desk⟩
  have D : DskT K mg A_Desk := ⟨T, cl_Desk, na_Desk__stands, na_Desk__steps⟩
  refine ⟨PySem.W.fnOf "law" "law" (defArgs s_law) (defBody s_law) (defScope s_law) .none kV_law dc_law pm_law an_law cd_law ct_law, fun s v => .of_eq rfl, fun base KB GB => ?_⟩
  have C_is_integer : Cal l.prog w K mg base CX0 1 "is_integer" ["value", "least", "greatest"] (spIsInt K) := ⟨_, _, PySem.W.mg_of X G a_is_integer, k_is_integer, b_is_integer, ok_is_integer F_is_integer T⟩
  have C_is_heaps : Cal l.prog w K mg base CX0 2 "is_heaps" ["value"] (spIsHeaps K) := ⟨_, _, PySem.W.mg_of X G a_is_heaps, k_is_heaps, b_is_heaps, ok_is_heaps F_is_heaps T C_is_integer⟩
  have C_check_heaps : Cal l.prog w K mg base (L2.CX l.prog w) 3 "check_heaps" ["heaps"] (spChkHeapsD K A_BadHeaps) := ⟨_, _, PySem.W.mg_of X G a_check_heaps, k_check_heaps, b_check_heaps, ok_check_heaps F_check_heaps T B_BadHeaps C_is_heaps⟩
  have C_check_heapsG : Cal l.prog w K mg base CX0 3 "check_heaps" ["heaps"] (spChkHeaps K) := Cal.calm C_check_heaps fun _ _ _ _ => chk_good
  have C_is_pair_of : Cal l.prog w K mg base CX0 2 "is_pair_of" ["many", "value"] (spIsPair K) := ⟨_, _, PySem.W.mg_of X G a_is_pair_of, k_is_pair_of, b_is_pair_of, ok_is_pair_of F_is_pair_of T C_is_integer⟩
  have C_can_be_made : Cal l.prog w K mg base CX0 1 "can_be_made" ["heaps", "step"] (spCan K) := ⟨_, _, PySem.W.mg_of X G a_can_be_made, k_can_be_made, b_can_be_made, ok_can_be_made F_can_be_made⟩
  have C_shifted : Cal l.prog w K mg base CX0 1 "shifted" ["heaps", "step", "many"] (spShiftedZ K) := ⟨_, _, PySem.W.mg_of X G a_shifted, k_shifted, b_shifted, ok_shifted F_shifted T⟩
  have C_behind : Cal l.prog w K mg base CX0 2 "behind" ["heaps", "step"] (spBehindZ K) := ⟨_, _, PySem.W.mg_of X G a_behind, k_behind, b_behind, ok_behind F_behind C_shifted⟩
  have C_check_step : Cal l.prog w K mg base (L2.CX l.prog w) 3 "check_step" ["heaps", "step"] (spChkStep K A_BadStep) := ⟨_, _, PySem.W.mg_of X G a_check_step, k_check_step, b_check_step, ok_check_step F_check_step T B_BadStep C_is_pair_of C_can_be_made⟩
  have C_Desk_init : CalN l.prog w K mg base CX0 4 A_Desk "Desk" ["self", "heaps"] (spInit K A_Desk) := ⟨_, _, PySem.W.mg_of X G x_Desk, ⟨mk_Desk, a_Desk_init, i_Desk_init, kc_Desk⟩, b_Desk_init, ok_Desk_init F_Desk_init D C_check_heapsG⟩
  have C_Desk_heaps : CalP l.prog w K mg base CX0 1 A_Desk "heaps" ["self"] (spDHeaps K A_Desk) := ⟨_, _, _, ⟨a_Desk_heaps, g_Desk_heaps, h_Desk_heaps, ⟨_, r_Desk_heaps⟩⟩, b_Desk_heaps, ok_Desk_heaps F_Desk_heaps D⟩
  have C_Desk_plan : CalP l.prog w K mg base CX0 1 A_Desk "plan" ["self"] (spPlan K A_Desk) := ⟨_, _, _, ⟨a_Desk_plan, g_Desk_plan, h_Desk_plan, ⟨_, r_Desk_plan⟩⟩, b_Desk_plan, ok_Desk_plan F_Desk_plan D⟩
  have C_Desk_move : CalM l.prog w K mg base (L2.CX l.prog w) 4 A_Desk "move" ["self", "one", "other"] (spMove K A_Desk A_BadStep A_Full) := ⟨_, _, ⟨a_Desk_move, i_Desk_move, k_Desk_move⟩, b_Desk_move, ok_Desk_move F_Desk_move D ⟨_, PySem.W.mg_of X G w_MOST_STEPS⟩ B_Full C_check_step C_behind⟩
  have C_moveG : CalM l.prog w K mg base CX0 4 A_Desk "move" ["self", "one", "other"] (spMoveG K A_Desk) := CalM.calm C_Desk_move fun _ _ _ _ => move_good
  have C_Desk_empties : CalM l.prog w K mg base CX0 1 A_Desk "empties" ["self"] (spEmpties K A_Desk) := ⟨_, _, ⟨a_Desk_empties, i_Desk_empties, k_Desk_empties⟩, b_Desk_empties, ok_Desk_empties F_Desk_empties D⟩
  have C_Desk_undo : CalM l.prog w K mg base CX0 1 A_Desk "undo" ["self"] (spUndo K A_Desk) := ⟨_, _, ⟨a_Desk_undo, i_Desk_undo, k_Desk_undo⟩, b_Desk_undo, ok_Desk_undo F_Desk_undo D⟩
  have C_Desk___len__ : CalM l.prog w K mg base CX0 1 A_Desk "__len__" ["self"] (spDLen K A_Desk) := ⟨_, _, ⟨a_Desk___len__, i_Desk___len__, k_Desk___len__⟩, b_Desk___len__, ok_Desk___len__ F_Desk___len__ D⟩
  have C_Desk_copy : CalM l.prog w K mg base CX0 6 A_Desk "copy" ["self"] (spCopy K A_Desk) := ⟨_, _, ⟨a_Desk_copy, i_Desk_copy, k_Desk_copy⟩, b_Desk_copy, ok_Desk_copy F_Desk_copy D C_Desk_init C_Desk_plan C_moveG⟩
  have C_l_mix : Cal l.prog w K mg base CX0 1 "_law_mix" ["_law_script", "_law_seed"] (spMix K) := ⟨_, _, PySem.W.mg_of X G a_l_mix, k_l_mix, b_l_mix, ok_mix F_l_mix U⟩
  have C_l_next : Cal l.prog w K mg base CX0 1 "_law_next" ["_law_h", "_law_bound"] (spNext) := ⟨_, _, PySem.W.mg_of X G a_l_next, k_l_next, b_l_next, ok_next F_l_next U⟩
  have C_l_heaps : Cal l.prog w K mg base CX0 2 "_law_heaps" ["_law_h", "_law_least", "_law_most"] (spHeaps) := ⟨_, _, PySem.W.mg_of X G a_l_heaps, k_l_heaps, b_l_heaps, ok_heaps F_l_heaps U C_l_next⟩
  have C_l_can : Cal l.prog w K mg base CX0 1 "_law_can" ["_law_heaps_here", "_law_step"] (spCan K) := ⟨_, _, PySem.W.mg_of X G a_l_can, k_l_can, b_l_can, ok_l_can F_l_can⟩
  have C_l_behind : Cal l.prog w K mg base CX0 1 "_law_behind" ["_law_heaps_here", "_law_step"] (spBehind K) := ⟨_, _, PySem.W.mg_of X G a_l_behind, k_l_behind, b_l_behind, ok_l_behind F_l_behind U⟩
  have C_l_pairs : Cal l.prog w K mg base CX0 1 "_law_pairs" ["_law_size"] (spPairs K) := ⟨_, _, PySem.W.mg_of X G a_l_pairs, k_l_pairs, b_l_pairs, ok_l_pairs F_l_pairs U⟩
  have C_l_moved : Cal l.prog w K mg base CX0 6 "_law_moved" ["_law_desk", "_law_one", "_law_other"] (spMoved K A_Desk) := ⟨_, _, PySem.W.mg_of X G a_l_moved, k_l_moved, b_l_moved, ok_l_moved F_l_moved D B_BadStep te_BadStep C_Desk_move⟩
  have C_l_stands : Cal l.prog w K mg base CX0 6 "_law_stands" ["_law_desk", "_law_rows"] (spStands K A_Desk) := ⟨_, _, PySem.W.mg_of X G a_l_stands, k_l_stands, b_l_stands, ok_l_stands F_l_stands D C_Desk_heaps C_Desk_plan C_Desk_empties C_Desk___len__⟩
  exact ok_law F_law D C_l_mix C_l_next C_l_heaps C_l_can C_l_behind C_l_pairs C_l_moved C_l_stands C_Desk_init C_Desk_undo C_Desk_copy
theorem walk {l : PySem.W.OpenLaw} {q : Program} {loose : List Str} {XP : (Str → Option Value) → Heap → Prop} {YP : World → Heap → Prop} {d : DefRec} {K : Params → PySem.W.Frag} (hn : l.most = some 63) (hdf : d.params.defaults = [])
    (hY : ∀ (w : World) (h : Heap), YP w h → (K w.params).In h)
    (F : ∀ (w : World) (mg : Str → Option Value) (fa : Addr) (h : Heap), (K w.params).In h → h.Ns mainGlobals mg → mg d.name = some (.ref fa) →
      ∃ fd : FuncData, (∀ (s : Shared) (u : Value), BindsTo s fd ⟨[u], []⟩ [("_law_script", u)]) ∧ ∀ base : Heap, (K w.params).In base → base.Ns mainGlobals mg → FnOk l.prog w (K w.params) mg base CX0 8 fa fd ["_law_script"] (spLaw (K w.params))) :
    PySem.W.WalkO q loose XP YP l.row.toRowW d [] (fun f vs => PySem.call f vs) :=
  L2.walk_of (n := 63) (k := 8) (x := "_law_script") (CX := fun _ => CX0) (sp := fun w => spLaw (K w.params)) hn (by decide) hdf ⟨rfl, by decide, by decide⟩ hY F (fun _ _ a ns hl _ hS => ⟨a, ns, rfl, hS, hl, fun _ => rfl⟩) fun _ _ _ _ _ z => z
end Hd
open PySem PySem.W PyProof.Rows
set_option maxRecDepth 100000 in
set_option maxHeartbeats 0 in
theorem PySem.Challenge.cw_heapsdouble_k06_whole_led_desk_holds : PySem.Challenge.rw_heapsdouble_k06_whole_led_desk.Holds := by
  w_on; o_law; k_head; (case hw => w_witness2)
  k_fill
  refine Hd.walk (l := PySem.Challenge.rw_heapsdouble_k06_whole_led_desk) rfl rfl (fun w h Y => PySem.W.kIn_of Y) ?F
  case F =>
    intro w mg fa h KX G hmg
    refine' Hd.all_mk KX G hmg ?x_BadHeaps ?xL_BadHeaps ?iHI_BadHeaps ?tI ?lI ?cI ?lcda ?hvs ?hfile ?lcc ?hD ?thr ?topN ?z_super ?supI_BadHeaps ?mroI_BadHeaps ?veI_BadHeaps ?xinI_BadHeaps ?kC_BadHeaps ?eC_BadHeaps ?tC_BadHeaps ?iC_BadHeaps ?sC_BadHeaps ?x_BadStep ?xL_BadStep ?iHI_BadStep ?supI_BadStep ?mroI_BadStep ?veI_BadStep ?xinI_BadStep ?kC_BadStep ?eC_BadStep ?tC_BadStep ?iC_BadStep ?sC_BadStep ?x_Full ?xL_Full ?iHI_Full ?supI_Full ?mroI_Full ?veI_Full ?xinI_Full ?kC_Full ?eC_Full ?tC_Full ?iC_Full ?sC_Full ?x_Desk ?pg_Desk ?hd_Desk ?po_Desk ?sa_Desk ?mk_Desk ?kc_Desk ?na_Desk__stands ?na_Desk__steps ?a_is_integer ?l_is_integer ?c_is_integer ?k_is_integer ?a_is_heaps ?l_is_heaps ?c_is_heaps ?k_is_heaps ?a_check_heaps ?l_check_heaps ?c_check_heaps ?k_check_heaps ?a_is_pair_of ?l_is_pair_of ?c_is_pair_of ?k_is_pair_of ?a_can_be_made ?l_can_be_made ?c_can_be_made ?k_can_be_made ?a_shifted ?l_shifted ?c_shifted ?k_shifted ?a_behind ?l_behind ?c_behind ?k_behind ?a_check_step ?l_check_step ?c_check_step ?k_check_step ?a_Desk_init ?i_Desk_init ?l_Desk_init ?c_Desk_init ?k_Desk_init ?a_Desk_heaps ?g_Desk_heaps ?h_Desk_heaps ?r_Desk_heaps ?i_Desk_heaps ?l_Desk_heaps ?c_Desk_heaps ?k_Desk_heaps ?a_Desk_plan ?g_Desk_plan ?h_Desk_plan ?r_Desk_plan ?i_Desk_plan ?l_Desk_plan ?c_Desk_plan ?k_Desk_plan ?a_Desk_move ?i_Desk_move ?l_Desk_move ?c_Desk_move ?k_Desk_move ?a_Desk_empties ?i_Desk_empties ?l_Desk_empties ?c_Desk_empties ?k_Desk_empties ?a_Desk_undo ?i_Desk_undo ?l_Desk_undo ?c_Desk_undo ?k_Desk_undo ?a_Desk___len__ ?i_Desk___len__ ?l_Desk___len__ ?c_Desk___len__ ?k_Desk___len__ ?a_Desk_copy ?i_Desk_copy ?l_Desk_copy ?c_Desk_copy ?k_Desk_copy ?a_l_mix ?l_l_mix ?c_l_mix ?k_l_mix ?a_l_next ?l_l_next ?c_l_next ?k_l_next ?a_l_heaps ?l_l_heaps ?c_l_heaps ?k_l_heaps ?a_l_can ?l_l_can ?c_l_can ?k_l_can ?a_l_behind ?l_l_behind ?c_l_behind ?k_l_behind ?a_l_pairs ?l_l_pairs ?c_l_pairs ?k_l_pairs ?a_l_moved ?l_l_moved ?c_l_moved ?k_l_moved ?a_l_stands ?l_l_stands ?c_l_stands ?k_l_stands ?a_law ?l_law ?c_law ?k_law ?z_int ?z_bool ?z_list ?z_len ?z_tuple ?z_isinstance ?z_all ?z_any ?z_sum ?z_enumerate ?z_range ?z_sorted ?z_set ?z_max ?z_min ?z_str ?w_FEWEST_HEAPS ?w_MOST_HEAPS ?w_GREATEST ?w_MOST_STEPS
    (case x_BadHeaps => k_is)
    (case xL_BadHeaps => k_is)
    (case iHI_BadHeaps => k_is)
    (case tI => k_is)
    (case lI => k_is)
    (case cI => k_is)
    (case lcda => k_is)
    (case hvs => rfl)
    (case hfile => first | rfl | decide +kernel)
    (case lcc => k_is)
    (case hD => k_is)
    (case thr => k_is)
    (case topN => first | rfl | decide +kernel)
    (case z_super => k_is)
    (case supI_BadHeaps => ks_is)
    (case mroI_BadHeaps => k_is)
    (case veI_BadHeaps => k_is)
    (case xinI_BadHeaps => kx_is)
    (case kC_BadHeaps => k_is)
    (case eC_BadHeaps => k_is)
    (case tC_BadHeaps => k_is)
    (case iC_BadHeaps => k_is)
    (case sC_BadHeaps => first | rfl | k_is)
    (case x_BadStep => k_is)
    (case xL_BadStep => k_is)
    (case iHI_BadStep => k_is)
    (case supI_BadStep => ks_is)
    (case mroI_BadStep => k_is)
    (case veI_BadStep => k_is)
    (case xinI_BadStep => kx_is)
    (case kC_BadStep => k_is)
    (case eC_BadStep => k_is)
    (case tC_BadStep => k_is)
    (case iC_BadStep => k_is)
    (case sC_BadStep => first | rfl | k_is)
    (case x_Full => k_is)
    (case xL_Full => k_is)
    (case iHI_Full => k_is)
    (case supI_Full => ks_is)
    (case mroI_Full => k_is)
    (case veI_Full => k_is)
    (case xinI_Full => kx_is)
    (case kC_Full => k_is)
    (case eC_Full => k_is)
    (case tC_Full => k_is)
    (case iC_Full => k_is)
    (case sC_Full => first | rfl | k_is)
    (case x_Desk => k_is)
    (case pg_Desk => k_is)
    (case hd_Desk => k_is)
    (case po_Desk => k_is)
    (case sa_Desk => k_is)
    (case mk_Desk => k_is)
    (case kc_Desk => k_is)
    (case na_Desk__stands => k_is)
    (case na_Desk__steps => k_is)
    (case a_is_integer => k_is)
    (case l_is_integer => k_is)
    (case c_is_integer => k_is)
    (case k_is_integer => k_is)
    (case a_is_heaps => k_is)
    (case l_is_heaps => k_is)
    (case c_is_heaps => k_is)
    (case k_is_heaps => k_is)
    (case a_check_heaps => k_is)
    (case l_check_heaps => k_is)
    (case c_check_heaps => k_is)
    (case k_check_heaps => k_is)
    (case a_is_pair_of => k_is)
    (case l_is_pair_of => k_is)
    (case c_is_pair_of => k_is)
    (case k_is_pair_of => k_is)
    (case a_can_be_made => k_is)
    (case l_can_be_made => k_is)
    (case c_can_be_made => k_is)
    (case k_can_be_made => k_is)
    (case a_shifted => k_is)
    (case l_shifted => k_is)
    (case c_shifted => k_is)
    (case k_shifted => k_is)
    (case a_behind => k_is)
    (case l_behind => k_is)
    (case c_behind => k_is)
    (case k_behind => k_is)
    (case a_check_step => k_is)
    (case l_check_step => k_is)
    (case c_check_step => k_is)
    (case k_check_step => k_is)
    (case a_Desk_init => k_is)
    (case i_Desk_init => k_is)
    (case l_Desk_init => k_is)
    (case c_Desk_init => k_is)
    (case k_Desk_init => k_is)
    (case a_Desk_heaps => k_is)
    (case g_Desk_heaps => k_is)
    (case h_Desk_heaps => k_is)
    (case r_Desk_heaps => k_is)
    (case i_Desk_heaps => k_is)
    (case l_Desk_heaps => k_is)
    (case c_Desk_heaps => k_is)
    (case k_Desk_heaps => k_is)
    (case a_Desk_plan => k_is)
    (case g_Desk_plan => k_is)
    (case h_Desk_plan => k_is)
    (case r_Desk_plan => k_is)
    (case i_Desk_plan => k_is)
    (case l_Desk_plan => k_is)
    (case c_Desk_plan => k_is)
    (case k_Desk_plan => k_is)
    (case a_Desk_move => k_is)
    (case i_Desk_move => k_is)
    (case l_Desk_move => k_is)
    (case c_Desk_move => k_is)
    (case k_Desk_move => k_is)
    (case a_Desk_empties => k_is)
    (case i_Desk_empties => k_is)
    (case l_Desk_empties => k_is)
    (case c_Desk_empties => k_is)
    (case k_Desk_empties => k_is)
    (case a_Desk_undo => k_is)
    (case i_Desk_undo => k_is)
    (case l_Desk_undo => k_is)
    (case c_Desk_undo => k_is)
    (case k_Desk_undo => k_is)
    (case a_Desk___len__ => k_is)
    (case i_Desk___len__ => k_is)
    (case l_Desk___len__ => k_is)
    (case c_Desk___len__ => k_is)
    (case k_Desk___len__ => k_is)
    (case a_Desk_copy => k_is)
    (case i_Desk_copy => k_is)
    (case l_Desk_copy => k_is)
    (case c_Desk_copy => k_is)
    (case k_Desk_copy => k_is)
    (case a_l_mix => k_is)
    (case l_l_mix => k_is)
    (case c_l_mix => k_is)
    (case k_l_mix => k_is)
    (case a_l_next => k_is)
    (case l_l_next => k_is)
    (case c_l_next => k_is)
    (case k_l_next => k_is)
    (case a_l_heaps => k_is)
    (case l_l_heaps => k_is)
    (case c_l_heaps => k_is)
    (case k_l_heaps => k_is)
    (case a_l_can => k_is)
    (case l_l_can => k_is)
    (case c_l_can => k_is)
    (case k_l_can => k_is)
    (case a_l_behind => k_is)
    (case l_l_behind => k_is)
    (case c_l_behind => k_is)
    (case k_l_behind => k_is)
    (case a_l_pairs => k_is)
    (case l_l_pairs => k_is)
    (case c_l_pairs => k_is)
    (case k_l_pairs => k_is)
    (case a_l_moved => k_is)
    (case l_l_moved => k_is)
    (case c_l_moved => k_is)
    (case k_l_moved => k_is)
    (case a_l_stands => k_is)
    (case l_l_stands => k_is)
    (case c_l_stands => k_is)
    (case k_l_stands => k_is)
    (case a_law => k_is)
    (case l_law => k_is)
    (case c_law => k_is)
    (case k_law => k_is)
    (case z_int => k_is)
    (case z_bool => k_is)
    (case z_list => k_is)
    (case z_len => k_is)
    (case z_tuple => k_is)
    (case z_isinstance => k_is)
    (case z_all => k_is)
    (case z_any => k_is)
    (case z_sum => k_is)
    (case z_enumerate => k_is)
    (case z_range => k_is)
    (case z_sorted => k_is)
    (case z_set => k_is)
    (case z_max => k_is)
    (case z_min => k_is)
    (case z_str => k_is)
    (case w_FEWEST_HEAPS => k_is)
    (case w_MOST_HEAPS => k_is)
    (case w_GREATEST => k_is)
    (case w_MOST_STEPS => k_is)
