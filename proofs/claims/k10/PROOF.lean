import PyProof.Rows.All
import Wide.All
import OpenK.AllK
import Wide.FinOn
import HandS.ForMost
import HandS.Exc
import HandS.TryOnly
import HandS.ExcOwn
import HandS.WordsExc
import HandS.ExcInit
import HandS.ExcField
import HandS.IsInst
import HandS.Deep
import HandS.Walk
import HandS.Wide
import HandS.Style
import KE.KTupSum
import KE.KExcSuper
import KE.KSuper
import HandS.ExcCtx
import HandS.HotCalls
import HandS.Words
import HandS.Property
import HandS.TupAny
import HandS.SetFor
import HandS.ExcIs
import KE.RegKIsAll
import KE.GoesEnum
import KE.DataMinMax
import HandS.TupSets
import HandS.DictTup
import HandS.ListItems
import HandS.SortRule
import HandS.GenList
import HandS.Comp
import HandS.DictComp
import HandS.TupLen
import KE.KDictWalk
import KE.KDictDisplayH
import KE.SortData
import HandS.Text
import HandS.StrMore
import Wide.Txt
import HandS.Gcd
import KE.KDictKeyed
import KE.KeyNested
import KE.KExcLine
import PySem.Challenge.RW_heapsdouble_k10_errors_apart
set_option Elab.async false
set_option linter.all false
set_option maxRecDepth 100000
set_option maxHeartbeats 2000000
/-! Rules of our own: xs[i] read for op=, sum of a tuple, enumerate of a tuple. -/
namespace Hd
open PySem PySem.Spec PyProof.Rows L2

theorem Same.tup {K : PySem.W.Frag} {H H' : Hp} {a : Addr} {xs : List V} (e : Same H H') (h : SqT K H a xs) : SqT K H' a xs := by
  rcases h with (h | ⟨o, h⟩) | h
  · exact .inl (.inl (e _ _ h))
  · exact .inl (.inr ⟨o, e _ _ h⟩)
  · exact .inr h
theorem Same.new {H : Hp} {p : Addr} {o : HO} (h : H p = none) : Same H (upd H p o) := fun a u e => by
  rw [upd_ne (ne_of_none e h)]
  exact e
theorem same_upd {H H' : Hp} {p : Addr} {o : HO} (e : Same H H') (h : H p = none) : Same H (upd H' p o) := fun a u ha => by
  rw [upd_ne (ne_of_none ha h)]
  exact e a u ha

/-- a def of one's own by its name: what a caller needs -/
structure Cal (P : Program) (w : World) (K : PySem.W.Frag) (mg : Str → Option Value) (base : Heap) (CX : CXT) (k : Nat) (x : Str) (ps : List Str) (sp : Sp) : Prop where
  ex : ∃ (f : Addr) (fd : FuncData), mg x = some (.ref f) ∧ PySem.W.keepIn K (.ref f) = true ∧ Binds K fd ps [] ∧ FnOk P w K mg base CX k f fd ps sp
def tCal (sp : Sp) (E : XK) (t : TA) : TE := fun σ H Q => t σ H fun vs H1 => sp vs H1 Q E
section
variable {X : Cx}
theorem pe_cal {CX : CXT} {j k : Nat} {x : Str} {ps : List Str} {sp : Sp} {E : XK} {e : Expr} {es : List Expr} {t : TA} {p pos : Pos} (C : Cal X.prog X.w X.K X.mg X.base CX j x ps sp) (hr : Room k X.A) (hg : Gl X x) (hx : Passes CX X E)
    (ha : PA X (e :: es) t) (hk : j ≤ k := by decide) (hdb : (x == ("__debug__" : Str)) = false := by decide) (he : starEach (e :: es) X.env = (false, eval e X.env) :: starEach es X.env := by rfl) (hpl : (backTo pos (starEach es X.env)).any (·.1) = false := by rfl) :
    PE X (.Call (.Name x p) (e :: es) [] pos) (tCal sp E t) := by
  obtain ⟨f, fd, hm, kp, hb, F⟩ := C.ex
  refine ⟨fun pins s σ H Q I h => (pe_call (dvs := []) F (hr.mono hk) hg hm kp hb .nil hx ha hdb he hpl).run pins s σ H Q I ?_⟩
  have e1 : (tCall sp [] E t) = tCal sp E t := by
    funext σ H Q
    unfold tCall tCal
    congr 1
    funext vs H1
    rw [List.append_nil]
  rw [e1]
  exact h
end

/-- a block cut behind its first statement: R is what every way through it brings -/
def tCutM (t u : TS) : TS := fun D σ H => ∃ R : L2.St → Hp → Prop, t { D with nx := R } σ H ∧ ∀ σ' H', R σ' H' → u D σ' H'
theorem pss_cutM {X : Cx} {st : Stmt} {rest : List Stmt} {t u : TS} (a : PS X st t) (b : PSs X rest u) : PSs X (st :: rest) (tCutM t u) := by
  refine ⟨fun pins s σ H D I hh => ?_⟩
  obtain ⟨R, hR, go⟩ := hh
  refine wpAny_execs_cons (thn (a.run pins s σ H { D with nx := R } I hR) fun f s1 q => ?_)
  cases f with
  | next =>
    obtain ⟨σ1, H1, I1, q1⟩ := q
    exact b.run pins s1 σ1 H1 D I1 (go σ1 H1 q1)
  | ret _ => exact q
  | brk => exact q
  | cont => exact q
section
variable {X : Cx}
/-- xs[k], 0 ≤ k, read for xs[k] op= e -/
def rGetL (K : PySem.W.Frag) : V → V → Hp → VK → Prop := fun o i H Q => ∃ p xs k v, o = .ref p ∧ i = .int k ∧ SqL K H p xs ∧ 0 ≤ k ∧ xs[k.toNat]? = some v ∧ Q v H
theorem pget_list : PGet X (rGetL X.K) := by
  intro pins s σ H o i ov iv Q I ro ri h
  obtain ⟨p, xs, k, v, rfl, rfl, hq, h0, he, q⟩ := h
  cases ro
  obtain ⟨t, rfl⟩ := ri
  obtain ⟨its, r, pl, hz⟩ := I.list hq
  obtain ⟨w, ew, rw'⟩ := r.get he
  have hl := r.length
  have hlt : k.toNat < its.length := (List.getElem?_eq_some_iff.mp ew).1
  have hb : k < 2 ^ 63 := by
    rw [sizeLine_eq] at hz
    omega
  exact wpAny_getItem_list pl.isList h0 hb (by simpa using ew) ⟨v, H, I, rw', q⟩

/-- sum(t) of a tuple of ints -/
def rSumT (K : PySem.W.Frag) : List V → Hp → VK → Prop := fun vs H Q => ∃ (a : Addr) (ns : List Int), vs = [V.ref a] ∧ SqT K H a (ns.map V.int) ∧ Q (.int ns.sum) H
theorem cr_sumT (hc : X.calm = true) : CallR X (.builtin "sum") (rSumT X.K) := by
  intro pins s σ H vs us Q I r h
  obtain ⟨a, ns, rfl, hs, q⟩ := h
  obtain ⟨its, rv, hl, _⟩ := I.tuple hs
  rw [Vals.ref1 r]
  have hi := rv.ints
  obtain ⟨xs, e⟩ := hi.allInts.items
  have hn : numsOf (intItems xs).toList = ns := by rw [← e]; exact hi.numsOf
  rw [nums_intItems] at hn
  rw [e] at hl
  refine PySem.W.ktm_sumG (I.ok.hd hc) hl fun h' tk t' hk => ?_
  rw [PySem.preSum_eq, List.take_of_length_le (by simp), hn]
  exact ⟨.int _, H, I.kept hk, ⟨_, rfl⟩, q⟩
end
end Hd
set_option maxHeartbeats 4000000
/-! raise X() of an own class whose base's __init__ says super().__init__(). -/
namespace Hd
open PySem PySem.W PySem.Calls PyProof.Rows
/-- the scope of def __init__(self): super().__init__() -/
def hiScope : Scope := { kind := .function, names := [(PySem.Str.ofString "self", .local), (PySem.Str.ofString "__class__", .free), (PySem.Str.ofString "super", .globalImplicit)], isGenerator := false, isCoroutine := false, more := [] }
/-- the base's __init__ as the top leaves it: a def that closes over its class -/
structure SupDef (prog : Program) (K : Frag) (fI D : Addr) : Prop where
  ex : ∃ (oc : Value) (od an : Option Addr) (params : Arguments) (qual : Str) (dV kV doc pm ct : Value) (cc cda : Addr) (osl : Array (Option Value)) (p0 p1 ap cp ep : Pos) (ar : Arg)
      (ccl cl : Value) (cdd cld : Option Addr) (vs : Array Value) (ccs csl : Array (Option Value)) (file : Str) (tf : Tok) (cdD : ClassData),
    K.lookup fI = some ⟨oc, od, .func (fnX "__init__" qual params [.Expr (.Call (.Attribute (.Call (.Name "super" p0) [] [] p1) "__init__" ap) [] [] cp) ep] hiScope [("__class__", cc)] dV kV doc pm an (.ref cda) ct), osl⟩ ∧
    codeIn K (.ref cda) qual = true ∧ (params.posonlyargs ++ params.args).head? = some ar ∧ ar.arg = "self" ∧
    (∀ v : Value, bindArgs (fnX "__init__" qual params [.Expr (.Call (.Attribute (.Call (.Name "super" p0) [] [] p1) "__init__" ap) [] [] cp) ep] hiScope [("__class__", cc)] dV kV doc pm an (.ref cda) ct) ⟨[v], []⟩ = pure [(("self" : Str), v)]) ∧
    (∀ L : Addr, ∃ pl : Sem Bool, eval (.Call (.Attribute (.Call (.Name "super" p0) [] [] p1) "__init__" ap) [] [] cp) (callEnv (fnX "__init__" qual params [.Expr (.Call (.Attribute (.Call (.Name "super" p0) [] [] p1) "__init__" ap) [] [] cp) ep] hiScope [("__class__", cc)] dV kV doc pm an (.ref cda) ct) L fI) = (do
      let ov ← attributeBase (.Call (.Name "super" p0) [] [] p1) "__init__" (callEnv (fnX "__init__" qual params [.Expr (.Call (.Attribute (.Call (.Name "super" p0) [] [] p1) "__init__" ap) [] [] cp) ep] hiScope [("__class__", cc)] dV kV doc pm an (.ref cda) ct) L fI) (eval (.Call (.Name "super" p0) [] [] p1) (callEnv (fnX "__init__" qual params [.Expr (.Call (.Attribute (.Call (.Name "super" p0) [] [] p1) "__init__" ap) [] [] cp) ep] hiScope [("__class__", cc)] dV kV doc pm an (.ref cda) ct) L fI))
      standAt ap.atName
      let (f, first) ← holding [ov] (getMethod ov "__init__" pl)
      callWith cp f first (backTo cp (starEach [] (callEnv (fnX "__init__" qual params [.Expr (.Call (.Attribute (.Call (.Name "super" p0) [] [] p1) "__init__" ap) [] [] cp) ep] hiScope [("__class__", cc)] dV kV doc pm an (.ref cda) ct) L fI))) [])) ∧
    K.lookup cda = some ⟨ccl, cdd, .fields vs, ccs⟩ ∧ vs[2]? = some (.str file tf) ∧ ((prog.main.file : Str) == file) = true ∧
    K.lookup cc = some ⟨cl, cld, .cell (some (.ref D)), csl⟩ ∧ clsIn K D = some cdD
  tI : typeIn K (.ref fI) = some (.type "function")
  sup : nsIn K mainGlobals "super" = some none
  thr : nsIn K cStatics "thirdparty.any" = some none
  top : (prog.main.scope.names.lookup ("super" : Str)).isSome = false
/-- an own class under it -/
structure NilC (K : Frag) (C D fI : Addr) : Prop where
  cls : ∃ nm q N bs bm sn sub ab col dd k0 k1 k2 k3 k5, K.lookup C = some (excClassObj nm q C N bs bm true sn sub ab col dd k0 k1 k2 k3 k5 "ValueError.__new__") ∧ PySem.HandSPX.refsVE bm = true
  ini : findIn K (.ref C) "__init__" = some (some (.ref fI))
  sup : ks_superIn K C D "__init__" = some (some (.builtin "ValueError.__init__"))
  sub : mroIn K C (.ref D) = some true
  ve : subIn K (.ref C) (.type "ValueError") = some true
  xin : excInitIn K C [.type "ValueError", .type "Exception", .type "BaseException", .type "object"] "ValueError.__new__" = true
theorem boot_super : bootBuiltins "super" = some (.type "super") := by first | boot_by_name | decide +kernel | rfl
section
variable {prog : Program} {w : World} {A : Around} {R : Result → Shared → Prop} {s : Shared} {K : Frag} {mg mb : Str → Option Value} {C D fI : Addr}
/-- the call of the __init__ on an exception at x that is being made -/
theorem nil_init (S : SupDef prog K fI D) (T : NilC K C D fI) {x t0 : Addr} (X : K.In s.heap) (hxK : K.lookup x = none) (G : s.heap.Ns mainGlobals mg) (Bn : s.heap.Ns builtinsNs mb) (hbb : ∀ z : Str, z ≠ "__name__" → mb z = bootBuiltins z)
    (hlim : s.heap.NoLimit) (hx : s.heap.get? x = some (excObj C t0 none .none)) (hroom : A.depth < recursionLimit)
    (hq : ∀ h' tk t1, (∀ b o, b ≠ x → s.heap.get? b = some o → h'.get? b = some o) → h'.get? x = some (excObj C t1 none .none) → R (.ok (.ret .none)) ⟨h', s.gens, s.drawn, tk, s.os⟩) :
    codeAny (model prog w) A (.call (.ref fI) ⟨[.ref x], []⟩) R s := by
  obtain ⟨oc, od, an, params, qual, dV, kV, doc, pm, ct, cc, cda, osl, p0, p1, ap, cp, ep, ar, ccl, cl, cdd, cld, vs, ccs, csl, file, tf, cdD, lf, hcd, hp, har, hb, hev, lc, hvs, hfile, lcell, hD⟩ := S.ex
  obtain ⟨nm, q, N, bs, bm, sn, sub, ab, col, dd, k0', k1, k2, k3, k5, hC, hbm⟩ := T.cls
  have hsu : hiScope.names.lookup ("super" : Str) = some .globalImplicit := by decide +kernel
  have hcl : hiScope.names.lookup ("__class__" : Str) = some .free := by decide +kernel
  have hse : hiScope.names.lookup ("self" : Str) = some .local := by decide +kernel
  have hnc : ∀ y ∈ hiScope.names, y.2 ≠ .cell := by decide +kernel
  have hk : hiScope.kind = .function := rfl
  have hmg : mg "super" = none := mg_none_of X G S.sup
  obtain ⟨hp0, g, d, tk, os⟩ := s
  have k0 : ∀ b o, (hideAll hp0 [x]).get? b = some o → hp0.get? b = some o := fun b o e => of_hideAll _ e
  have hxn : (hideAll hp0 [x]).get? x = none := hideAll_none _ (by simp)
  have hle : (hideAll hp0 [x]).objs.size = hp0.objs.size := hideAll_size _ _
  have X₀ : K.In (hideAll hp0 [x]) := fun b o e => hideAll_get _ (X b o e) (by
    intro z
    have z' : b = x := by simpa using z
    rw [z', hxK] at e
    cases e)
  refine ks_codeAny_call_defAt (fd := fnX "__init__" qual params [.Expr (.Call (.Attribute (.Call (.Name "super" p0) [] [] p1) "__init__" ap) [] [] cp) ep] hiScope [("__class__", cc)] dV kV doc pm an (.ref cda) ct)
    (binds := [("self", .ref x)]) hroom (X _ _ lf) rfl hlim (codeRec_of X hcd) rfl (.of_eq (hb _)) hnc (fun y hy => ?_) (fun h₁ hns kk => ?_) rfl rfl rfl
  · have e : y = (("self" : Str), Value.ref x) := by simpa using hy
    subst e
    exact hse
  have X1 : K.In h₁ := X.keeps kk
  have hx1 : h₁.get? x = some (excObj C t0 none .none) := kk _ _ hx
  have Lne : hp0.objs.size ≠ x := Nat.ne_of_gt (Heap.lt_size hx)
  obtain ⟨pl, he⟩ := hev hp0.objs.size
  refine ks_wpAt_execs_cons (ks_wpAt_Expr_any (ks_wpAt_MethodCall (pl := pl) ?_ he) (by show interactive _ = false; simp [interactive, callEnv, newEnv, hk]))
  refine ks_wpAt_super_base hsu hcl (by decide) rfl (X1 _ _ lf) rfl hp rfl (X1 _ _ lc) rfl hvs hfile S.top ?_
  have X1' := X1
  refine ks_loadName_global hk hsu (loadGlobal_builtin (G.keeps kk) hmg (Bn.keeps kk) ((hbb _ (by decide)).trans boot_super) ⟨rfl, ?_⟩)
  refine wpAny_loadName_free hk hcl rfl ⟨_, X1 _ _ lcell, rfl⟩ ?_
  refine wpAny_loadName_local hk (by rw [har]; exact hse) hns (by rw [har]; rfl) ?_
  obtain ⟨oD, hD1, hD2⟩ : ∃ oD, h₁.get? D = some oD ∧ oD.data = .cls cdD := by
    unfold clsIn at hD
    split at hD
    · rename_i c d cd' sl ho
      cases hD
      exact ⟨_, X1 _ _ ho, rfl⟩
    · cases hD
  refine ks_wpAny_isType_cls hD1 hD2 ⟨rfl, ?_⟩
  refine ks_wpAny_call_super hD1 hD2 hx1 rfl (fun c e => nomatch e) (looks_mroIn X1 T.sub) (fun h2 e2 kk2 => ?_)
  have X2 : K.In h2 := X1.keeps kk2
  have hx2 := kk2 _ _ hx1
  have I2 : InstAt h2 x (excObj C t0 none .none) C none := ⟨hx2, rfl, rfl, trivial⟩
  have hsup := T.sup
  cases hc : clsIn K C with
  | none =>
    unfold ks_superIn at hsup
    rw [hc] at hsup
    cases hsup
  | some cd =>
    unfold ks_superIn at hsup
    rw [hc] at hsup
    refine kxs_getMethod kxs_ValueError e2 (looks_opaque X2 S.thr) (l₀ := cd.mro) (fun A Q E s k q => wpAny_bind ((looks_clsIn X2 hc) A _ E s k (wpAny_pure q))) rfl X2 hsup
      (I2.type.andThen (looks_subIn X2 T.ve)) (ks_ne X2 I2 hc) (by decide) ?_
    have hu : (h2.push (kxs_mw "ValueError.__init__" x)).get? h2.objs.size = some (kxs_mw "ValueError.__init__" x) := Heap.get?_push_at rfl rfl
    have kk3 : ∀ b o, h2.get? b = some o → (h2.push (kxs_mw "ValueError.__init__" x)).get? b = some o := fun b o e => Heap.get?_push_of_some _ e
    have hx3 := kk3 _ _ hx2
    refine kxs_callWith (i := "ValueError.__init__") (x := x) rfl (evalArgs_empty ⟨hu, ?_⟩)
    show wpAny _ _ (call (.ref h2.objs.size) []) _ _ _
    have ns3 := (hns.keeps kk2).keeps kk3
    have lt2 : x < h2.objs.size := Heap.lt_size hx2
    have L1 : hp0.objs.size < h2.objs.size := by
      obtain ⟨oL, _, _, hL, _⟩ := hns
      exact Heap.lt_size (kk2 _ _ hL)
    have none0 : ∀ b, (hideAll hp0 [x]).objs.size ≤ b → (hideAll hp0 [x]).get? b = none := fun b hb => Heap.get?_none_of_le hb
    have FR : Fr (hideAll hp0 [x]) hp0.objs.size (h2.push (kxs_mw "ValueError.__init__" x)) (fun y => [(("self" : Str), Value.ref x)].reverse.lookup y) :=
      ⟨ns3, fun b o e => kk3 _ _ (kk2 _ _ (kk _ _ (k0 b o e))), Nat.le_of_eq hle⟩
    have NW : News (hideAll hp0 [x]) hp0.objs.size (h2.push (kxs_mw "ValueError.__init__" x)) [(h2.objs.size, kxs_mw "ValueError.__init__" x), (x, excObj C t0 none .none)] := fun p hp => by
      rcases List.mem_cons.mp hp with e | hp
      · subst e
        exact ⟨hu, Nat.ne_of_gt L1, none0 _ (by omega)⟩
      · have e : p = (x, excObj C t0 none .none) := by simpa using hp
        subst e
        exact ⟨hx3, Lne.symm, hxn⟩
    refine kxs_call (s := ⟨h2.push (kxs_mw "ValueError.__init__" x), g, d, _, os⟩) FR X₀ NW F.excBase_ValueError T.xin List.mem_cons_self (.tail (Nat.ne_of_gt lt2) (.head fun p hp => (nomatch hp))) (by show 0 ≤ sizeLine; decide) fun t1 h4 F4 N4 l4 => ?_
    refine wpAt_of_wpAny (wpAny_execs_nil ?_)
    refine hq h4 _ t1 (fun b o hb e => F4.keep b o (hideAll_get _ e (by simpa using hb))) (N4 (x, excObj C t1 none .none) (by simp)).1
/-- X() -/
theorem nil_made (S : SupDef prog K fI D) (T : NilC K C D fI) (X : K.In s.heap) (G : s.heap.Ns mainGlobals mg) (Bn : s.heap.Ns builtinsNs mb) (hbb : ∀ z : Str, z ≠ "__name__" → mb z = bootBuiltins z)
    (hlim : s.heap.NoLimit) (hroom : A.depth + 1 < recursionLimit)
    (hq : ∀ h' tk e t1, (∀ b o, s.heap.get? b = some o → h'.get? b = some o) → s.heap.objs.size ≤ e → h'.get? e = some (excObj C t1 none .none) → R (.ok (.ret (.ref e))) ⟨h', s.gens, s.drawn, tk, s.os⟩) :
    codeAny (model prog w) A (.call (.ref C) ⟨[], []⟩) R s := by
  obtain ⟨nm, q, N, bs, bm, sn, sub, ab, col, dd, k0, k1, k2, k3, k5, hC, hbm⟩ := T.cls
  obtain ⟨h0, g, d, tk, os⟩ := s
  have up : ∀ b o, h0.get? b = some o → ((h0.push (kdv_tup [])).push (PySem.HandSPX.excO C h0.objs.size)).get? b = some o := fun b o e => Heap.get?_push_of_some _ (Heap.get?_push_of_some _ e)
  have at1 : ((h0.push (kdv_tup [])).push (PySem.HandSPX.excO C h0.objs.size)).get? (h0.objs.size + 1) = some (PySem.HandSPX.excO C h0.objs.size) := by heap_get
  have new1 : K.lookup (h0.objs.size + 1) = none := by
    cases e : K.lookup (h0.objs.size + 1) with
    | none => rfl
    | some o => exact absurd (Nat.lt_of_succ_lt (Heap.lt_size (show h0.get? (h0.objs.size + 1) = some o from X _ _ e))) (Nat.lt_irrefl _)
  refine PySem.HandSPX.call_own F.excBase_ValueError (fun Y => PySem.HandSPX.refsVE_contains Y bm hbm) (X _ _ hC) (looks_findIn X T.ini) (fun self => bind_fn X self S.tI) (by show 0 ≤ sizeLine; decide) ?_
  refine nil_init (s := ⟨(h0.push (kdv_tup [])).push (PySem.HandSPX.excO C h0.objs.size), g, d, tk, os⟩) (x := h0.objs.size + 1) S T (X.keeps up) new1 (G.keeps up) (Bn.keeps up) hbb (hlim.keeps up) at1 (by show A.depth + 1 < recursionLimit; exact hroom) fun h2 tk2 t1 k2 e2 => ?_
  refine ⟨rfl, hq h2 tk2 (h0.objs.size + 1) t1 (fun b o e => k2 b o (Nat.ne_of_lt (Nat.lt_succ_of_lt (Heap.lt_size e))) (up b o e)) (Nat.le_succ _) e2⟩
end
open L2 in
/-- what the top has of an own error without arguments -/
structure NilX (prog : Program) (K : Frag) (mg : Str → Option Value) (x : Str) (C : Addr) : Prop where
  gC : mg x = some (.ref C)
  kC : keepIn K (.ref C) = true
  exC : subIn K (.ref C) (.type "BaseException") = some true
  tyC : typeIn K (.ref C) = some (.type "type")
  sd : ∃ D fI, SupDef prog K fI D ∧ NilC K C D fI
open L2 in
def tNil0 (C : Addr) : L2.St → Hp → XK → Prop := fun _ H Q => Q (.ref C) none H
open L2 in
theorem pmk_nil {X : Cx} {x : Str} {C : Addr} {k : Nat} {p pos : Pos} (T : NilX X.prog X.K X.mg x C) (hr : Room k X.A) (hg : Gl X x) (hd : (x == ("__debug__" : Str)) = false := by decide) : PMk X (.Call (.Name x p) [] [] pos) (tNil0 C) := by
  obtain ⟨D, fI, S, N⟩ := T.sd
  intro pins s σ H Q I h
  refine wpAny_Call_Name_kw (ld_glob I hg T.gC ?_ hd)
  refine callWith_K0 I.kIn T.kC ?_
  show wpAny _ _ (call (.ref C) []) _ _ _
  obtain ⟨mb, b1, b2⟩ := I.mod.blt
  refine wpAny_call (nil_made S N I.kIn (I.mod.glob.keeps I.bk) (b1.keeps I.bk) b2 I.nolimit (by have := hr.dp; omega) fun h' tk e t1 kk le he => ?_)
  have nw : s.heap.get? e = none := Heap.get?_none_of_le le
  exact ⟨e, _, _, s, H, .ref C, none, rfl, I, kk, nw, he, ⟨rfl, rfl⟩, rfl, rfl, I.hok.fresh le, rfl, I.bare, raises_own T.exC T.tyC, h⟩
end Hd
set_option maxHeartbeats 4000000
/-! Errors whose context is told: what raises them. -/
namespace Hd
open PySem PySem.Spec PyProof.Rows L2
theorem takes0N {X : Cx} : L2N.Takes X (fun _ _ _ _ => False) := fun u s' x => by
  obtain ⟨_, _, _, _, _, _, _, _, _, _, _, _, _, _, _, _, no⟩ := x
  exact no.elim
/-- a def that raises, by its body -/
theorem okN {P : Program} {w : World} {K : PySem.W.Frag} {mg : Str → Option Value} {base : Heap} {x qual : Str} {st : Stmt} {f : Addr} {fd : FuncData} {N ps : List Str} {k : Nat} {sp : Sp} (F : L2.Fun K x qual st f fd) (S : FnScope N ps (defScope st))
    (hlen : ∀ vs H Q E, sp vs H Q E → vs.length = ps.length)
    (body : ∀ (cdv : Value) (A : Around) (outer : List Env) (s : Shared) (H : Hp) (vs : List V) (Q : VK) (E : XK), Room k (A.deeper (envOfC qual (defScope st) s.heap.objs.size f cdv)) → sp vs H Q E →
      ∃ t, PSs (cxOf (L2N.CX P w) P w K mg base N qual (defScope st) f cdv A outer s H E) (defBody st) t ∧ t { nx := fun _ H' => Q .non H', rt := Q } (start N vs) H) : FnOk P w K mg base (L2N.CX P w) (k + 1) f fd ps sp := by
  obtain ⟨c1, c2, c3, c4, c5, c6, cdv, c7, c8, rfl, look, code⟩ := F.ex
  refine fn_of look code S hlen ?_
  intro A outer s H vs Q E room h
  exact body cdv A outer s H vs Q E room h
theorem pmkN_nil {X : Cx} {x : Str} {C : Addr} {k : Nat} {p pos : Pos} (T : NilX X.prog X.K X.mg x C) (hr : Room k X.A) (hg : Gl X x) (hd : (x == ("__debug__" : Str)) = false := by decide) : L2N.PMk X (.Call (.Name x p) [] [] pos) (tNil0 C) := by
  obtain ⟨D, fI, S, N⟩ := T.sd
  intro pins s σ H Q I h
  refine wpAny_Call_Name_kw (ld_glob I hg T.gC ?_ hd)
  refine PySem.W.callWith_K0 I.kIn T.kC ?_
  show wpAny _ _ (call (.ref C) []) _ _ _
  obtain ⟨mb, b1, b2⟩ := I.mod.blt
  refine wpAny_call (nil_made S N I.kIn (I.mod.glob.keeps I.bk) (b1.keeps I.bk) b2 I.nolimit (by have := hr.dp; omega) fun h' tk e t1 kk le he => ?_)
  have nw : s.heap.get? e = none := Heap.get?_none_of_le le
  exact ⟨e, _, _, s, H, .ref C, none, rfl, I, kk, nw, he, ⟨rfl, rfl, fun vs q => by cases q; rfl⟩, rfl, rfl, I.hok.fresh le, rfl, I.bare, raises_own T.exC T.tyC, h⟩
theorem pmkN_oex {X : Cx} {CX : CXT} {x : Str} {e : Expr} {es : List Expr} {ta : TA} {p pos : Pos} {C fI : Addr} {k : Nat} {fd : FuncData} {ps : List Str} {sp : Sp} {ds : List Value} {dvs : List V} (T : OexC X.K C) (iC : PySem.W.findIn X.K (.ref C) "__init__" = some (some (.ref fI)))
    (tI : PySem.W.typeIn X.K (.ref fI) = some (.type "function")) (F1 : FnOk X.prog X.w X.K X.mg X.base CX k fI fd ps sp) (hr : Room (k + 1) X.A) (hb : Binds X.K fd ps ds) (hd : Vals dvs ds) (hx : Passes CX X (fun _ _ _ => False)) (hg : Gl X x) (hm : X.mg x = some (.ref C))
    (ha : PA X (e :: es) ta) (hdb : (x == ("__debug__" : Str)) = false := by decide) (he : starEach (e :: es) X.env = (false, eval e X.env) :: starEach es X.env := by rfl) (hpl : (backTo pos (starEach es X.env)).any (·.1) = false := by rfl) :
    L2N.PMk X (.Call (.Name x p) (e :: es) [] pos) (tMkO C sp dvs ta) := by
  intro pins s σ H Q I hq
  obtain ⟨z1, z2, z3, z4, bm, z6, z7, z8, z9, z10, z11, z12, z13, z14, z15, hC, hbm⟩ := T.cls
  refine wpAny_Call_Name_kw (ld_glob I hg hm ?_ hdb)
  have I0 := I.ok.mod.kin
  refine PySem.W.callWith_K (h₀ := X.base) I0 T.kC ?_ he hpl
  refine thn (ha.run pos pins s σ H _ I hq) fun us s1 got => ?_
  obtain ⟨vs, H1, I1, r1, few, next⟩ := got
  refine ⟨I1.kIn, ?_⟩
  show wpAny _ _ (call (.ref C) us) _ _ _
  obtain ⟨hp, g, dr, tk, os⟩ := s1
  have le1 : hp.objs.size ≤ hp.objs.size + 1 := by omega
  have free1 : H1 (hp.objs.size + 1) = none := I1.hok.fresh le1
  have now := next (hp.objs.size + 1) free1
  have at1 : ((hp.push (PySem.W.kdv_tup us)).push (PySem.HandSPX.excO C hp.objs.size)).get? (hp.objs.size + 1) = some (PySem.HandSPX.excO C hp.objs.size) := by heap_get
  have up1 : ∀ b o, hp.get? b = some o → ((hp.push (PySem.W.kdv_tup us)).push (PySem.HandSPX.excO C hp.objs.size)).get? b = some o := by
    intro b o q
    exact Heap.get?_push_of_some _ (Heap.get?_push_of_some _ q)
  have I2 := I1.laid (t' := tk) (a := hp.objs.size + 1) (o := exo (hp.objs.size + 1) C none) (h' := (hp.push (PySem.W.kdv_tup us)).push (PySem.HandSPX.excO C hp.objs.size)) up1 le1 (exo_ok at1)
  have r2 : Vals (V.ref (hp.objs.size + 1) :: (vs ++ dvs)) (Value.ref (hp.objs.size + 1) :: (us ++ ds)) := .cons rfl (r1.append hd)
  have same : (Value.ref (hp.objs.size + 1) :: us ++ ds).length = ps.length := by
    have q := r2.length
    rw [F1.len _ _ _ _ now] at q
    exact q.symm
  have small : us.length ≤ sizeLine := by
    have q := Paired.length r1
    have := sizeLine_eq
    omega
  have bound := hb _ (Value.ref (hp.objs.size + 1) :: us) I2.kIn same
  have told := F1.run _ X.stack _ _ ⟨Value.ref (hp.objs.size + 1) :: us, []⟩ (Value.ref (hp.objs.size + 1) :: (us ++ ds)) _ _ (fun _ _ _ => False) (hr.make C us []) (I2.env0.make C us []) bound r2 now
  refine wpAny_call (PySem.HandSPX.call_own F.excBase_ValueError (fun Y => PySem.HandSPX.refsVE_contains Y bm hbm) (I1.kIn _ _ hC) (PySem.W.looks_findIn I1.kIn iC) (fun self => PySem.W.bind_fn I1.kIn self tI) small (codeAny_mono told fun r s2 out => ?_))
  cases r with
  | error er => exact hx pins σ _ _ er s2 I2 out
  | ok fl =>
    cases fl with
    | next => exact False.elim out
    | brk => exact False.elim out
    | cont => exact False.elim out
    | ret u =>
      obtain ⟨v, H2, os2, bare2, un2, hok2, rv, ev, d, fs, ea, ed, hd1, fin⟩ := out
      subst ev
      obtain ⟨h2, g2, d2, t2, os3⟩ := s2
      obtain ⟨t0, G, J, keepG, newG, there, gone⟩ := mk_end0 (d2 := d2) (t2 := t2) I1 le1 up1 un2 hok2 os2 bare2 ea ed hd1
      refine ⟨rv, hp.objs.size + 1, _, _, ⟨G, g2, d2, t2, os3⟩, _, .ref C, some d, rfl, J, keepG, newG, there, ⟨rfl, rfl, fun vs q => ?_⟩, rfl, rfl, gone, rfl, bare2, raises_own T.exC T.tyC, fin⟩
      cases q
      rfl
end Hd
set_option maxHeartbeats 2000000
/-! Promises joined and widened; methods, properties and len of an own class by name; tuple.count. -/
namespace Hd
open PySem PySem.Spec PyProof.Rows L2

section
variable {P : Program} {w : World} {K : PySem.W.Frag} {mg : Str → Option Value} {base : Heap} {k k' : Nat} {f : Addr} {fd : FuncData} {ps : List Str} {sp sp' : Sp} {CX : CXT}
theorem fn_or (F : FnOk P w K mg base CX k f fd ps sp) (G : FnOk P w K mg base CX k f fd ps sp') : FnOk P w K mg base CX k f fd ps (fun vs H Q E => sp vs H Q E ∨ sp' vs H Q E) :=
  ⟨fun vs H Q E h => h.elim (F.len vs H Q E) (G.len vs H Q E), fun A outer s H args us vs Q E hr he hb hv h => h.elim (F.run A outer s H args us vs Q E hr he hb hv) (G.run A outer s H args us vs Q E hr he hb hv)⟩
/-- what raises nothing raises nothing of any kind -/
theorem fn_lift (F : FnOk P w K mg base CX0 k f fd ps sp) : FnOk P w K mg base CX k f fd ps sp :=
  ⟨F.len, fun A outer s H args us vs Q E hr he hb hv h => codeAny_mono (F.run A outer s H args us vs Q E hr he hb hv h) fun r s' q => by
    cases r with
    | error e => exact False.elim q
    | ok fl => cases fl <;> first | exact q | exact False.elim q⟩
/-- where no error is wished for, none leaves -/
theorem fn_calm (F : FnOk P w K mg base (L2N.CX P w) k f fd ps sp) (h : ∀ vs H Q E, sp' vs H Q E → sp vs H Q E0) : FnOk P w K mg base CX0 k f fd ps sp' :=
  ⟨fun vs H Q E q => F.len vs H Q E0 (h _ _ _ _ q), fun A outer s H args us vs Q E hr he hb hv q => codeAny_mono (F.run A outer s H args us vs Q E0 hr he hb hv (h _ _ _ _ q)) fun r s' z => by
    cases r with
    | error e =>
      obtain ⟨_, _, _, _, _, _, _, _, _, _, _, _, z⟩ := z
      exact z
    | ok fl => cases fl <;> first | exact z | exact False.elim z⟩
end

section
variable {P : Program} {w : World} {K : PySem.W.Frag} {mg : Str → Option Value} {base : Heap} {k k' : Nat} {x : Str} {ps : List Str} {sp sp' : Sp} {CX : CXT}
theorem Cal.mono (c : Cal P w K mg base CX k x ps sp) (h : k ≤ k' := by decide) : Cal P w K mg base CX k' x ps sp := by
  obtain ⟨f, fd, a, b, c, F⟩ := c.ex
  exact ⟨f, fd, a, b, c, F.mono h⟩
theorem Cal.imp (c : Cal P w K mg base CX k x ps sp) (h : ∀ vs H Q E, sp' vs H Q E → sp vs H Q E) : Cal P w K mg base CX k x ps sp' := by
  obtain ⟨f, fd, a, b, c, F⟩ := c.ex
  exact ⟨f, fd, a, b, c, F.imp h⟩
theorem Cal.calm (c : Cal P w K mg base (L2N.CX P w) k x ps sp) (h : ∀ vs H Q E, sp' vs H Q E → sp vs H Q E0) : Cal P w K mg base CX0 k x ps sp' := by
  obtain ⟨f, fd, a, b, c, F⟩ := c.ex
  exact ⟨f, fd, a, b, c, fn_calm F h⟩
theorem Cal.lift (c : Cal P w K mg base CX0 k x ps sp) : Cal P w K mg base CX k x ps sp := by
  obtain ⟨f, fd, a, b, c, F⟩ := c.ex
  exact ⟨f, fd, a, b, c, fn_lift F⟩
end

/-- a method of the class at C by its name -/
structure CalM (P : Program) (w : World) (K : PySem.W.Frag) (mg : Str → Option Value) (base : Heap) (CX : CXT) (k : Nat) (C : Addr) (m : Str) (ps : List Str) (sp : Sp) : Prop where
  ex : ∃ (f : Addr) (fd : FuncData), Meth K C m f ∧ Binds K fd ps [] ∧ FnOk P w K mg base CX k f fd ps sp
/-- a property of it -/
structure CalP (P : Program) (w : World) (K : PySem.W.Frag) (mg : Str → Option Value) (base : Heap) (CX : CXT) (k : Nat) (C : Addr) (m : Str) (ps : List Str) (sp : Sp) : Prop where
  ex : ∃ (p f : Addr) (fd : FuncData), PropOf K C m p f ∧ Binds K fd ps [] ∧ FnOk P w K mg base CX k f fd ps sp
/-- its making -/
structure CalN (P : Program) (w : World) (K : PySem.W.Frag) (mg : Str → Option Value) (base : Heap) (CX : CXT) (k : Nat) (C : Addr) (x : Str) (ps : List Str) (sp : Sp) : Prop where
  ex : ∃ (f : Addr) (fd : FuncData), mg x = some (.ref C) ∧ Mk K C f ∧ Binds K fd ps [] ∧ FnOk P w K mg base CX k f fd ps sp
theorem CalM.calm {P : Program} {w : World} {K : PySem.W.Frag} {mg : Str → Option Value} {base : Heap} {k : Nat} {C : Addr} {x : Str} {ps : List Str} {sp sp' : Sp} (c : CalM P w K mg base (L2N.CX P w) k C x ps sp) (h : ∀ vs H Q E, sp' vs H Q E → sp vs H Q E0) : CalM P w K mg base CX0 k C x ps sp' := by
  obtain ⟨f, fd, a, b, F⟩ := c.ex
  exact ⟨f, fd, a, b, fn_calm F h⟩
section
variable {X : Cx} {CX : CXT} {j k : Nat} {C : Addr} {x m : Str} {ps : List Str} {sp : Sp} {E : XK} {e o : Expr} {es : List Expr} {ta : TE} {t : TA} {p pos apos : Pos}
theorem pe_cal0 (c : Cal X.prog X.w X.K X.mg X.base CX j x ps sp) (hr : Room k X.A) (hg : Gl X x) (hx : Passes CX X E) (hk : j ≤ k := by decide) (hdb : (x == ("__debug__" : Str)) = false := by decide) :
    PE X (.Call (.Name x p) [] [] pos) (tCal sp E tNil) := by
  obtain ⟨f, fd, hm, kp, hb, F⟩ := c.ex
  refine ⟨fun pins s σ H Q I h => (pe_call0 (dvs := []) F (hr.mono hk) hg hm kp hb .nil hx hdb).run pins s σ H Q I ?_⟩
  exact h
def tMth (C : Addr) (m : Str) (sp : Sp) (E : XK) (ta : TE) (t : TA) : TE := fun σ H Q => ta σ H fun x H1 => ∃ a dx fs, x = .ref a ∧ H1 a = some (.ins C dx fs) ∧ fs.lookup m = none ∧ t σ H1 fun vs H2 => sp (x :: vs) H2 Q E
theorem pe_mth {pl : Sem Bool} (c : CalM X.prog X.w X.K X.mg X.base CX j C m ps sp) (cl : Cls X.K C) (hr : Room k X.A) (hx : Passes CX X E) (he : PE X o ta) (ha : PA X (e :: es) t) (hk : j ≤ k := by decide)
    (hst : starEach (e :: es) X.env = (false, eval e X.env) :: starEach es X.env := by rfl) (hpl : (backTo pos (starEach es X.env)).any (·.1) = false := by rfl)
    (ht : eval (.Call (.Attribute o m apos) (e :: es) [] pos) X.env = (do
      let ov ← eval o X.env
      standAt apos.atName
      let (f, first) ← holding [ov] (getMethod ov m pl)
      callWith pos f first (backTo pos (starEach (e :: es) X.env)) (backToKw pos (keywordEach [] X.env))) := by rfl) :
    PE X (.Call (.Attribute o m apos) (e :: es) [] pos) (tMth C m sp E ta t) := by
  obtain ⟨f, fd, hm, hb, F⟩ := c.ex
  refine ⟨fun pins s σ H Q I h => (pe_meth (dvs := []) (ds := []) he cl hm F (hr.mono hk) hb .nil hx ha hst hpl ht).run pins s σ H Q I ?_⟩
  have e1 : tMeth C m sp [] E ta t = tMth C m sp E ta t := by
    funext σ H Q
    unfold tMeth tMth
    simp only [List.append_nil]
  rw [e1]
  exact h
theorem pe_mth0 {pl : Sem Bool} (c : CalM X.prog X.w X.K X.mg X.base CX j C m ps sp) (cl : Cls X.K C) (hr : Room k X.A) (hx : Passes CX X E) (he : PE X o ta) (hk : j ≤ k := by decide)
    (ht : eval (.Call (.Attribute o m apos) [] [] pos) X.env = (do
      let ov ← eval o X.env
      standAt apos.atName
      let (f, first) ← holding [ov] (getMethod ov m pl)
      callWith pos f first (backTo pos (starEach [] X.env)) (backToKw pos (keywordEach [] X.env))) := by rfl) :
    PE X (.Call (.Attribute o m apos) [] [] pos) (tMth C m sp E ta tNil) := by
  obtain ⟨f, fd, hm, hb, F⟩ := c.ex
  refine ⟨fun pins s σ H Q I h => (pe_meth0 (dvs := []) (ds := []) he cl hm F (hr.mono hk) hb .nil hx ht).run pins s σ H Q I ?_⟩
  have e1 : tMeth C m sp [] E ta tNil = tMth C m sp E ta tNil := by
    funext σ H Q
    unfold tMeth tMth
    simp only [List.append_nil]
  rw [e1]
  exact h
/-- o.m(e, ..) in a try's body -/
def tMthS (C : Addr) (m : Str) (sp : Sp) (E : L2.St → XK) (ta : TE) (t : TA) : TE := fun σ H Q => ta σ H fun x H1 => ∃ a dx fs, x = .ref a ∧ H1 a = some (.ins C dx fs) ∧ fs.lookup m = none ∧ t σ H1 fun vs H2 => sp (x :: vs) H2 Q (E σ)
theorem pe_mthS {E : L2.St → XK} {pl : Sem Bool} (c : CalM X.prog X.w X.K X.mg X.base CX j C m ps sp) (cl : Cls X.K C) (hr : Room k X.A) (hx : ∀ σ, PassesAt CX X σ (E σ)) (he : PE X o ta) (ha : PA X (e :: es) t) (hk : j ≤ k := by decide)
    (hst : starEach (e :: es) X.env = (false, eval e X.env) :: starEach es X.env := by rfl) (hpl : (backTo pos (starEach es X.env)).any (·.1) = false := by rfl)
    (ht : eval (.Call (.Attribute o m apos) (e :: es) [] pos) X.env = (do
      let ov ← eval o X.env
      standAt apos.atName
      let (f, first) ← holding [ov] (getMethod ov m pl)
      callWith pos f first (backTo pos (starEach (e :: es) X.env)) (backToKw pos (keywordEach [] X.env))) := by rfl) :
    PE X (.Call (.Attribute o m apos) (e :: es) [] pos) (tMthS C m sp E ta t) := by
  obtain ⟨f, fd, hm, hb, F⟩ := c.ex
  refine ⟨fun pins s σ H Q I h => ?_⟩
  refine PySem.W.methodCall_KW (pl := pl) (thn (he.run pins s σ H _ I h) fun u s1 ⟨x, H1, I1, rx, a, dx, fs, ex, ea, l, q⟩ => ?_) ht
  subst ex
  obtain rfl : u = Value.ref a := rx
  refine getmeth_ok I1 ea cl hm l ?_
  refine PySem.W.callWith_K (first := [.ref a]) (h₀ := X.base) I1.ok.mod.kin hm.kp (thn (ha.run pos pins s1 σ H1 _ I1 q) fun us s2 ⟨vs, H2, I2, r, q2⟩ => ⟨I2.kIn, ?_⟩) hst hpl
  exact run_fnS (us := .ref a :: us) (vs := .ref a :: vs) F (hr.mono hk) hb (hx σ) I2 (.cons rfl r) q2
/-- o.f, a property -/
def tPrp (C : Addr) (sp : Sp) (ta : TE) : TE := fun σ H Q => ta σ H fun x H1 => ∃ a dx fs, x = .ref a ∧ H1 a = some (.ins C dx fs) ∧ sp [.ref a] H1 Q E0
theorem pe_prp (c : CalP X.prog X.w X.K X.mg X.base CX0 j C m ps sp) (cl : Cls X.K C) (hr : Room k X.A) (he : PE X e ta) (hk : j + 1 ≤ k := by decide) (hab : attributeBase e m X.env (eval e X.env) = eval e X.env := by rfl) :
    PE X (.Attribute e m pos) (tPrp C sp ta) := by
  obtain ⟨p, f, fd, hp, hb, F⟩ := c.ex
  exact pe_prop (dvs := []) (ds := []) he cl hp F (hr.mono hk) hb .nil pass0 hab
/-- C(e, ..) -/
def tMak (C : Addr) (sp : Sp) (E : XK) (t : TA) : TE := fun σ H Q => t σ H fun vs H1 => ∀ x dx, H1 x = none → H1 dx = none → dx ≠ x → sp (.ref x :: vs) (upd (upd H1 dx (.own x)) x (.ins C dx [])) (fun v H2 => v = .non ∧ Q (.ref x) H2) E
theorem pe_mak (c : CalN X.prog X.w X.K X.mg X.base CX j C x ps sp) (hr : Room k X.A) (hg : Gl X x) (hx : Passes CX X E) (ha : PA X (e :: es) t) (hk : j + 1 ≤ k := by decide) (hdb : (x == ("__debug__" : Str)) = false := by decide)
    (he : starEach (e :: es) X.env = (false, eval e X.env) :: starEach es X.env := by rfl) (hpl : (backTo pos (starEach es X.env)).any (·.1) = false := by rfl) :
    PE X (.Call (.Name x p) (e :: es) [] pos) (tMak C sp E t) := by
  obtain ⟨f, fd, hm, M, hb, F⟩ := c.ex
  refine ⟨fun pins s σ H Q I h => (pe_make (dvs := []) (ds := []) M F (hr.mono hk) hg hm hb .nil hx ha hdb he hpl).run pins s σ H Q I ?_⟩
  have e1 : tMake C sp [] E t = tMak C sp E t := by
    funext σ H Q
    unfold tMake tMak
    simp only [List.append_nil]
  rw [e1]
  exact h
/-- len(o), o of an own class with __len__ -/
def rLenO (C : Addr) (sp : Sp) : List V → Hp → VK → Prop := fun vs H Q => ∃ a dx fs, vs = [V.ref a] ∧ H a = some (.ins C dx fs) ∧ sp [.ref a] H (fun v H' => ∃ n : Int, v = .int n ∧ 0 ≤ n ∧ n < 2 ^ 63 ∧ Q (.int n) H') E0
theorem call_lenO (c : CalM X.prog X.w X.K X.mg X.base CX0 j C "__len__" ps sp) (hr : Room k X.A) (hk : j + 1 ≤ k := by decide) : CallR X (.builtin "len") (rLenO C sp) := by
  obtain ⟨f, fd, hm, hb, F⟩ := c.ex
  intro pins s σ H vs us Q I r h
  obtain ⟨a, dx, fs, rfl, ea, q⟩ := h
  rw [Vals.ref1 r]
  obtain ⟨mA, O, _, _, _, _⟩ := ins_get I.hok ea
  obtain ⟨od, J, _⟩ := O.look
  have hr1 : Room j X.A.in1 := (hr.mono hk).in1
  refine Calls.call_function_entry kind_len plain_len entry_len (args_len1 _) ?_
  unfold Builtin.«len»
  refine wpAny_bind (m := oneArg "len" _) (wpAny_pure ?_)
  have hl : ([Value.ref a] ++ ([] : List Value)).length = ps.length := by
    rw [← F.len _ _ _ _ q]
    rfl
  have b := hb s [.ref a] I.kIn hl
  refine wpAny_bind (m := callSpecial? (.ref a) (Str.ofString "__len__")) (PySem.W.special_fn I.kIn J hm.at_ (beq_iff_eq.mp hm.fn) (wpAny_call (codeAny_mono (F.run X.A.in1 X.stack s H ⟨[.ref a], []⟩ [.ref a] [.ref a] _ E0 hr1 I.env0.in1 b (.cons rfl .nil) q) fun r s' hq => ?_)))
  cases r with
  | error er => exact False.elim hq
  | ok fl =>
    cases fl with
    | ret u =>
      obtain ⟨v, H', I3, rv, n, rfl, h0, h1, q3⟩ := I.after hq
      obtain ⟨t, rfl⟩ := rv
      refine wpAny_bind (wpAny_holding (wpAny_pure ?_))
      refine wpAny_bind (wpAny_letGo ?_)
      show wpAny _ _ (if n < 0 then _ else _) _ _ _
      rw [if_neg (by omega)]
      show wpAny _ _ (if n ≥ 2 ^ 63 then _ else _) _ _ _
      rw [if_neg (by omega)]
      exact wpAny_bind (wpAny_mkInt (wpAny_pure ⟨_, rfl, .int n, H', I3.tok _, ⟨_, rfl⟩, q3⟩))
    | next => exact False.elim hq
    | brk => exact False.elim hq
    | cont => exact False.elim hq
/-- t.count(k), a tuple of ints -/
def rCntT (K : PySem.W.Frag) : V → List V → Hp → VK → Prop := fun x xs H Q => ∃ (p : Addr) (ns : List Int) (k : Int), x = .ref p ∧ xs = [.int k] ∧ SqT K H p (ns.map V.int) ∧ Q (.int (ns.count k : Nat)) H
theorem mt_tcount : MtR X "tuple.count" (rCntT X.K) := by
  intro pins s σ H x xs v us Q I rx rxs h
  obtain ⟨p, ns, k, rfl, rfl, hs, q⟩ := h
  cases rx
  obtain ⟨u, rfl, ru⟩ := rxs.one
  obtain ⟨t, rfl⟩ := ru
  obtain ⟨its, rv, ⟨⟨cls, dd, data, sl⟩, ho, hc, n, hd⟩, hlen⟩ := I.tuple hs
  simp only at hc hd
  subst hc hd
  have hi := ints_of_vals rv
  refine call_meets PySem.F.slot_tuple_count ⟨_, ho, rfl⟩ PySem.F.entry_tuple_count (PySem.F.args_tuple_count_2 _ _)
    (SeqAt.tuple_countAt p its.toArray n dd sl (.int k t) (eqk k)) ⟨ho, fun y hy => (eqk_gives hi y (by simpa using hy)).at _ _, ?_⟩
  have ec : its.toArray.toList.countP (eqk k) = ns.count k := eqk_count hi
  refine ⟨.int (ns.count k : Nat), H, I.tok _, ⟨s.toks, ?_⟩, q⟩
  show Value.int ((its.toArray.toList.countP (eqk k) : Nat) : Int) s.toks = Value.int ((ns.count k : Nat) : Int) s.toks
  rw [ec]
end

theorem exm_self {K : PySem.W.Frag} {S : Addr} (b : PySem.W.subIn K (.ref S) (.type "BaseException") = some true) (i : PySem.W.isClsIn K S = true)
    (t : PySem.W.typeIn K (.ref S) = some (.type "type")) (s : PySem.W.subIn K (.ref S) (.ref S) = some true) : PySem.W.exmOne K (.ref S) (.ref S) = some true := by
  have i' : (PySem.W.clsIn K S).isSome = true := i
  have g1 : (PySem.W.subIn K (.ref S) (.type "BaseException") == some true) = true := by rw [b]; rfl
  have g2 : ((PySem.W.clsIn K S).isSome && PySem.W.typeIn K (.ref S) == some (.type "type")) = true := by rw [i', t]; rfl
  show (if (_ : Bool) = true then (if (_ : Bool) = true then PySem.W.subIn K (.ref S) (.ref S) else none) else none) = some true
  rw [if_pos g1, if_pos g2]
  exact s
theorem units64 {k : Nat} {A : Around} (r : Room k A) : A.units + 64 < cLine := by
  have := r.un
  omega
theorem units65 {k : Nat} {A : Around} (r : Room k A) : A.units + 65 < cLine := by
  have := r.un
  omega
/-- len within a comprehension -/
def rLenK (K : PySem.W.Frag) : List V → Hp → VK → Prop := fun xs H Q => ∃ p ys, xs = [V.ref p] ∧ (SqL K H p ys ∨ SqT K H p ys) ∧ Q (V.int ys.length) H
/-- a test whose answer is shown apart -/
theorem ifF {c : Bool} {a b : Prop} (h : c = false) (g : b) : (if c = true then a else b) := by
  rw [h]
  exact g
theorem ifT {c : Bool} {a b : Prop} (h : c = true) (g : a) : (if c = true then a else b) := by
  rw [h]
  exact g
/-! ### tuples that bear no dict: their methods can be called -/
def TupZ (H : Hp) (a : Addr) (xs : List V) : Prop := ∃ o : Obj, o.dict = none ∧ H a = some (.frz o (.tup xs))
theorem TupZ.sq {K : PySem.W.Frag} {H : Hp} {a : Addr} {xs : List V} (h : TupZ H a xs) : SqT K H a xs := by
  obtain ⟨o, _, h⟩ := h
  exact .inl (.inr ⟨o, h⟩)
theorem TupZ.same {H H' : Hp} {a : Addr} {xs : List V} (s : Same H H') (h : TupZ H a xs) : TupZ H' a xs := by
  obtain ⟨o, d, h⟩ := h
  exact ⟨o, d, s _ _ h⟩
section
variable {X : Cx} {es : List Expr} {t : TA} {pos : Pos}
def tTupZ (t : TA) : TE := fun σ H Q => t σ H fun xs H1 => xs.length ≤ sizeLine ∧ ∀ p o, H1 p = none → o.dict = none → Q (.ref p) (upd H1 p (.frz o (.tup xs)))
theorem pe_tupZ {x1} (h : PA X es t) : PE X (.Tuple es x1 pos) (tTupZ t) := by
  refine ⟨fun pins s σ H Q I hq => ?_⟩
  refine wpAny_Tuple_spliced (thn (h.run pos pins s σ H _ I hq) fun us s1 ⟨xs, H1, I1, r, z, q⟩ => ⟨by rw [← r.length]; exact z, ?_⟩)
  have hf : H1 s1.heap.objs.size = none := I1.hok.fresh (Nat.le_refl _)
  have hd : ({ cls := .type "tuple", data := .seq us.toArray } : Obj).dict = none := rfl
  refine ⟨.ref s1.heap.objs.size, upd H1 s1.heap.objs.size (.frz { cls := .type "tuple", data := .seq us.toArray } (.tup xs)), I1.laid (t' := s1.toks) (fun b u e => Heap.get?_push_of_some _ e) (Nat.le_refl _) ?_, rfl, q _ _ hf hd⟩
  exact ⟨Heap.get?_push_size _ rfl, z, us, r, ⟨_, Heap.get?_push_size _ rfl, rfl, _, rfl⟩⟩
/-- tuple(x) of a list -/
def rTupleZ (K : PySem.W.Frag) : List V → Hp → VK → Prop := fun xs H Q => ∃ p ys, xs = [V.ref p] ∧ SqL K H p ys ∧ ∀ l o, H l = none → o.dict = none → Q (.ref l) (upd H l (.frz o (.tup ys)))
theorem call_tupleZ : CallR X (.type "tuple") (rTupleZ X.K) := by
  intro pins s σ H xs us Q I r h
  obtain ⟨p, ys, rfl, hq, q⟩ := h
  rw [Vals.ref1 r]
  obtain ⟨its, r', pl, hz⟩ := I.list hq
  have hlen := r'.length
  refine call_tuple_list pl.isList (fun h' kp => ?_) (by simp only [List.size_toArray] <;> omega)
  have I1 : Inv X pins σ H { s with heap := h' } := I.kept (t' := s.toks) kp
  have I2 : Inv X pins σ (upd H h'.objs.size (.frz { cls := .type "tuple", data := .seq its.toArray } (.tup ys))) { s with heap := h'.push { cls := .type "tuple", data := .seq its.toArray } } :=
    I1.laid (t' := s.toks) (fun b o e => Heap.get?_push_of_some _ e) (Nat.le_refl _) (show ObjOk X.prog X.w _ _ _ (.frz _ (.tup ys)) from ⟨Heap.get?_push_size _ rfl, hz, its, r', IsTup.new _ _⟩)
  exact ⟨.ref h'.objs.size, _, I2, rfl, q _ _ (I1.hok.fresh (Nat.le_refl _)) rfl⟩
/-- o.m(e, ..), o such a tuple -/
def tBMT (r : V → List V → Hp → VK → Prop) (to : TE) (t : TA) : TE := fun σ H Q => to σ H fun x H1 => (∃ a xs, x = .ref a ∧ TupZ H1 a xs) ∧ t σ H1 fun vs H2 => r x vs H2 Q
theorem pe_bmT {o e : Expr} {to : TE} {name : Str} {apos cpos : Pos} {id : String} {r : V → List V → Hp → VK → Prop} (pa : PlainAttrs "tuple") (slot : Slot "tuple" name id) (hty : typeOf (.builtin id) = pure (.type "method_descriptor")) (hm : MtR X id r) (ho : PE X o to) (ha : PA X (e :: es) t)
    (hbase : attributeBase o name X.env (eval o X.env) = eval o X.env := by rfl)
    (hfew : ((backTo cpos (starEach (e :: es) X.env)).all (fun x => !x.1) && (backToKw cpos (keywordEach [] X.env)).all (fun x => x.1.isSome)
      && decide ((e :: es).length + ([] : List Keyword).length + (if ([] : List Keyword).isEmpty then 0 else 1) < 30)) = true := by rfl)
    (hline : (apos.endLine == cpos.line) = true := by rfl) (hs : starEach (e :: es) X.env = (false, eval e X.env) :: starEach es X.env := by rfl) (hplain : (backTo cpos (starEach es X.env)).any (·.1) = false := by rfl) :
    PE X (.Call (.Attribute o name apos) (e :: es) [] cpos) (tBMT r to t) := by
  refine ⟨fun pins s σ H Q I h => ?_⟩
  refine wpAny_Call_method_late hbase hfew hline rfl (thn (ho.run pins s σ H _ I h) fun v s1 ⟨x, H1, I1, r1, ⟨a, xs, ex, ob, hd, hA⟩, q1⟩ => ?_)
  subst ex
  obtain rfl : v = Value.ref a := r1
  obtain ⟨hg, _, its, rv, o2, h2, hc, n, hdt⟩ := (show ObjOk X.prog X.w H1 s1.heap a (.frz ob (.tup xs)) from I1.hok a _ hA)
  have e2 : o2 = ob := Option.some.inj (h2.symm.trans hg)
  subst e2
  refine ⟨"tuple", id, pa, slot, hty, ⟨_, hg, hc⟩, fun b eb => ?_, ?_⟩
  · cases eb
    exact ⟨_, hg, hd⟩
  have hA := ha.run cpos pins s1 σ H1 _ I1 q1
  rw [hs] at hA ⊢
  refine Calls.callWith_builtin (by show (false || (backTo cpos (starEach es X.env)).any (·.1)) = false; rw [hplain] <;> rfl) (Calls.evalArgs_plain ?_)
  exact thn hA fun us s2 ⟨vs, H2, I2, r2, q2⟩ => hm pins s2 σ H2 (.ref a) vs (.ref a) us Q I2 rfl r2 q2
end
/-- a new tuple handed back: that it bears no dict is forgotten -/
theorem ok_thaw {P : Program} {w : World} {H : Hp} {h : Heap} {a : Addr} {o : Obj} {xs : List V} (ok : HOk P w H h) (ha : H a = some (.frz o (.tup xs))) : HOk P w (upd H a (.tup xs)) h := fun b u e => by
  by_cases q : b = a
  · subst q
    rw [upd_same] at e
    cases e
    obtain ⟨_, z⟩ := (show ObjOk P w H h b (.frz o (.tup xs)) from ok b _ ha)
    exact z
  · rw [upd_ne q] at e
    exact (ok b u e).stay (fun c v _ r => r) (fun c r => by rw [upd_ne (ne_of r ha (by intro z; cases z))]; exact r) fun c ys r => by rw [upd_ne (ne_of r ha (by intro z; cases z))]; exact r
theorem un_thaw {fs ex : List Addr} {H H' : Hp} {h h' : Heap} {a : Addr} {o : HO} (u : Un fs ex H H' h h') (h0 : H a = none) (hs : ∃ v, H' a = some v) : Un fs ex H (upd H' a o) h h' :=
  ⟨u.keep, u.slot, fun b ob q n hx => by
    have z := u.free b ob q n hx
    by_cases e : b = a
    · subst e
      obtain ⟨v, hv⟩ := hs
      rw [hv] at z
      cases z
    · rw [upd_ne e]
      exact z, u.there, fun b xs e => by rw [upd_ne (ne_of_none e h0)]; exact u.tups b xs e, fun b ob v e => by rw [upd_ne (ne_of_none e h0)]; exact u.frzs b ob v e, fun b ps e => by
    obtain ⟨more, z⟩ := u.tbls b ps e
    exact ⟨more, by rw [upd_ne (ne_of_none e h0)]; exact z⟩⟩
theorem fn_thaw {P : Program} {w : World} {K : PySem.W.Frag} {mg : Str → Option Value} {base : Heap} {k : Nat} {f : Addr} {fd : FuncData} {ps : List Str} {sp sp' : Sp} {CX : CXT} (F : FnOk P w K mg base CX k f fd ps sp)
    (h : ∀ vs H Q E, sp' vs H Q E → sp vs H (fun v H' => ∃ a o xs, v = .ref a ∧ H a = none ∧ H' a = some (.frz o (.tup xs)) ∧ Q v (upd H' a (.tup xs))) E) : FnOk P w K mg base CX k f fd ps sp' :=
  ⟨fun vs H Q E q => F.len vs H _ E (h _ _ _ _ q), fun A outer s H args us vs Q E hr he hb hv q => codeAny_mono (F.run A outer s H args us vs _ E hr he hb hv (h _ _ _ _ q)) fun r s' z => by
    cases r with
    | error e => exact z
    | ok fl =>
      cases fl with
      | ret u =>
        obtain ⟨v, H', z1, z2, z3, z4, z5, a, o, xs, rfl, h0, h1, q'⟩ := z
        exact ⟨_, _, z1, z2, un_thaw z3 h0 ⟨_, h1⟩, ok_thaw z4 h1, z5, q'⟩
      | next => exact z
      | brk => exact z
      | cont => exact z⟩
theorem Cal.thaw {P : Program} {w : World} {K : PySem.W.Frag} {mg : Str → Option Value} {base : Heap} {k : Nat} {x : Str} {ps : List Str} {sp sp' : Sp} {CX : CXT} (c : Cal P w K mg base CX k x ps sp)
    (h : ∀ vs H Q E, sp' vs H Q E → sp vs H (fun v H' => ∃ a o xs, v = .ref a ∧ H a = none ∧ H' a = some (.frz o (.tup xs)) ∧ Q v (upd H' a (.tup xs))) E) : Cal P w K mg base CX k x ps sp' := by
  obtain ⟨f, fd, a, b, c, F⟩ := c.ex
  exact ⟨f, fd, a, b, c, fn_thaw F h⟩
theorem same_thaw {H H' : Hp} {a : Addr} {o : HO} (s : Same H H') (h : H a = none) : Same H (upd H' a o) := same_upd s h
end Hd
set_option maxHeartbeats 4000000
/-! isinstance of a caught error that has a dict of its own; a text times a number. -/
namespace Hd
open PySem PySem.Spec PySem.Calls PyProof.Rows PySem.W
section
variable {prog : Program} {w : World} {A : Around} {E : Value → Shared → Prop} {s : Shared} {K : Frag} {x D : Addr} {ox : Obj} {od : Option Obj}
theorem find_cls {C : Addr} {name : Str} {a g : Value} (hc : hasDictIn K C = true) (ha : findIn K (.ref C) name = some (some a)) (hg : specialIn K a "__get__" = some (some g)) (ht : takesIn K a = some true) : findObj K C od name = some (.bind g a) := by
  obtain ⟨cd, hc, _⟩ := any_some hc
  unfold findObj
  rw [hc, Option.bind_some, ha, Option.bind_some]
  simp only [hg, ht, Option.bind_some]
/-- the class of an error, asked by its name, with a dict or without -/
theorem cls_asked {Q : Option Value → Shared → Prop} (C : L2.ExcC K D) (X : K.In s.heap) (I : InstAt s.heap x ox D od) (h : Q (some (.ref D)) { s with toks := s.toks + 1 }) : wpAny (model prog w) A (getAttr? (.ref x) "__class__") Q E s := by
  have hf := find_cls (od := od) C.hd C.ha C.hn C.ht
  obtain ⟨hp, g, d, t, os⟩ := s
  have Ty := I.type (M := model prog w)
  have Ga := looks_findIn (M := model prog w) X C.hg
  have Gg := looks_findIn (M := model prog w) X C.hk
  have Fi := looks_find (M := model prog w) X I hf
  have Be : Looks (model prog w) hp (isInstance (.ref x) (.type "BaseException")) true := Ty.andThen (looks_subIn X C.hs)
  have q1 : (onTheHeap (Value.ref D) && Value.builtin "BaseException.__getattribute__" == Value.builtin "object.__getattribute__") = false := by
    rw [show (Value.builtin "BaseException.__getattribute__" == Value.builtin "object.__getattribute__") = false by decide +kernel]
    rfl
  unfold getAttr? getAttrBy? getAttrBy
  refine wpAny_bind (wpAny_mkText (wpAny_bind (wpAny_attempt (wpAny_holding (wpAny_bind (Ty.at (wpAny_bind (Ga.at ?_))))))))
  show wpAny _ _ (if (onTheHeap (Value.ref D) && Value.builtin "BaseException.__getattribute__" == Value.builtin "object.__getattribute__") = true then _ else _) _ _ _
  rw [q1, if_neg Bool.false_ne_true]
  unfold getAttrByItsOwn hookBefore
  refine wpAny_bind ?_
  rw [if_pos (show onTheHeap (Value.ref D) = true from rfl)]
  refine Gg.at (wpAny_bind (wpAny_attempt (wpAny_holding ?_)))
  unfold callGetattribute
  rw [show (false && onTheHeap (Value.builtin "BaseException.__getattribute__")) = false from rfl, if_neg Bool.false_ne_true]
  unfold boundAndCalled
  rw [PySem.F.excAttr_ValueError.ga.bind (.ref x)]
  refine wpAny_bind (wpAny_pure ?_)
  show wpAny _ _ (call (.builtin "BaseException.__getattribute__") [.ref x, .str "__class__" t]) _ _ _
  refine wpAny_call (codeAny_call_builtin PySem.F.excAttr_ValueError.ga.plain PySem.F.entry_bexc_ga ?_)
  refine @check_slot (model prog w) _ _ ⟨hp, g, d, t + 1, os⟩ "BaseException.__getattribute__" "BaseException" "__getattribute__" (.ref x) [.str "__class__" t] [] _ (by decide +kernel) (by decide +kernel) Be (PySem.F.args_bexc_ga (.ref x) (.str "__class__" t)) ?_
  unfold Builtin.«object.__getattribute__»
  refine wpAny_bind (wpAny_of_eq (a := ((Value.ref x : Value), [Value.str "__class__" t])) (by first | rfl | (simp only [slotArgs]; rfl)) ?_)
  refine wpAny_bind (wpAny_pure (wpAny_bind (Ty.at (wpAny_bind (Fi.at ?_)))))
  show wpAny _ _ (holding [Value.builtin "object.__class__"] (call (.builtin "getset_descriptor.__get__") [.builtin "object.__class__", .ref x, .ref D]) >>= ret) _ _ _
  refine wpAny_bind (wpAny_holding (wpAny_call (class_get (s := ⟨hp, g, d, t + 1, os⟩) (ox := ox) (od := od) X I C.hm ?_)))
  refine wpAny_pure ?_
  show wpAny _ _ (handedOut (.ref D)) _ _ _
  rw [handedOut_of (v := .ref D) rfl]
  first
    | exact wpAny_pure (wpAny_pure h)
    | exact wpAny_pure h
    | exact wpAny_pure (wpAny_bind (wpAny_pure (wpAny_pure h)))
theorem cls_head (C : L2.ExcC K D) : ∃ c' d' cd' sl', K.lookup D = some ⟨c', d', .cls cd', sl'⟩ := by
  obtain ⟨cd, hc, _⟩ := any_some C.hd
  unfold clsIn at hc
  split at hc
  · exact ⟨_, _, _, _, by assumption⟩
  · cases hc
theorem kit_err (C : L2.ExcC K D) : KitX K (.ref x) (.ref D) (fun h => InstAt h x ox D od) where
  ty := fun _ _ _ I => I.type
  it := fun _ _ X _ => by
    obtain ⟨c', d', cd', sl', ho⟩ := cls_head C
    intro A' Q' E' s' k q
    unfold isType loadHead
    exact wpAny_bind (wpAny_loadPart (k _ _ (X _ _ ho)) (wpAny_pure q))
  ne := fun h tp dd its n sl X htp => by
    obtain ⟨c', d', cd', sl', ho⟩ := cls_head C
    refine Bool.eq_false_iff.mpr fun q => ?_
    obtain rfl : D = tp := Value.ref.inj (beq_iff_eq.mp q)
    have z := (X _ _ ho).symm.trans htp
    cases z
  ca := fun X I k => cls_asked C X I k
end
open L2
/-- isinstance(e, c): e the error that the suite holds, with its dict -/
def rIsX (K : PySem.W.Frag) (D : Addr) (cls : Value) (d : Option Addr) (a : Addr) : List V → Hp → VK → Prop := fun xs H Q => ∃ (c : V) (cv : Value) (b : Bool) (dd : Addr) (fs : List (Str × V)), xs = [.ref a, c] ∧ cls = .ref D ∧ d = some dd ∧ H dd = some (.xd fs) ∧ (∀ u, RelV c u → u = cv) ∧ PySem.W.kitOne K (.ref D) cv = some b ∧ Q (.bl b) H
theorem call_isX {X : Cx} {a D : Addr} {oe : Obj} {cls : Value} {d : Option Addr} {pn : List (Addr × Obj)} (C : ExcC X.K D) (hz : Zc cls d oe) (hf : ∃ vs, oe.data = .fields vs) : CallR (X.suite a ((a, oe) :: pn)) (.builtin "isinstance") (rIsX X.K D cls d a) := by
  intro pins s σ H xs us Q I r h
  obtain ⟨c, cv, b, dd, fs, rfl, rfl, rfl, hdd, hcv, e, q⟩ := h
  cases r with
  | cons rx rr =>
    cases rr with
    | cons rt rr =>
      cases rr
      cases rx
      have ec := hcv _ rt
      subst ec
      obtain ⟨ha, _⟩ := I.pin (a, oe) (List.mem_append.mpr (.inl List.mem_cons_self))
      obtain ⟨vs, hv⟩ := hf
      have ho : ObjOk X.prog X.w H s.heap dd (.xd fs) := I.hok dd _ hdd
      obtain ⟨mA, hns, hr⟩ := ho
      obtain ⟨od, ho, _⟩ := lookIn_ns hns
      have J : PySem.W.InstAt s.heap a oe D (some od) := ⟨ha, hz.1, by unfold PySem.W.notCls; rw [hv] <;> rfl, by rw [hz.2]; exact ho⟩
      exact PySem.W.kia_one (kit_err C) I.kIn J e (fun z => nomatch z) fun tk => ⟨.bl b, H, I.kept (t' := tk) fun _ _ z => z, rfl, q⟩
/-! ### a text times a number -/
theorem fold_app (c : Array Nat) : ∀ (m : Nat) (acc : Array Nat), ((List.replicate m c).foldl (· ++ ·) acc).toList = acc.toList ++ (List.replicate m c.toList).flatten
  | 0, acc => by simp
  | m + 1, acc => by
    rw [List.replicate_succ, List.foldl_cons, fold_app c m, Array.toList_append, List.replicate_succ, List.flatten_cons, List.append_assoc]
def rMulS : R2 := fun x y H Q => ∃ (z : Str) (n : Nat), x = .str z ∧ y = .int (n : Int) ∧ 2 ≤ n ∧ n ≤ 100 ∧ 1 ≤ z.length ∧ z.length ≤ 100 ∧ ∀ u : Str, u.length = n * z.length → TL.tl u = (List.replicate n (TL.tl z)).flatten → Q (.str u) H
theorem op_mulS {X : Cx} : OpR X (binaryOp .Mult) rMulS := by
  intro pins s σ H x y v u Q I rx ry h
  obtain ⟨z, n, rfl, rfl, h2, h100, z1, z100, q⟩ := h
  obtain ⟨t, rfl⟩ := rx
  obtain ⟨t', rfl⟩ := ry
  have hn1 : ¬ (n : Int) < 1 := by omega
  have hlen : (List.replicate n z.cps.toList).flatten.length = n * z.length := by
    rw [List.length_flatten, List.map_replicate, List.sum_replicate_nat]
    rfl
  have hb : ((n : Int) == 1 || z.length == 0) = false := by
    rw [Bool.or_eq_false_iff]
    exact ⟨beq_eq_false_iff_ne.mpr (by omega), beq_eq_false_iff_ne.mpr (by omega)⟩
  have hm : n * z.length ≤ 100 * 100 := Nat.mul_le_mul h100 z100
  have htl : TL.tl ⟨(List.replicate n z.cps).foldl (· ++ ·) #[]⟩ = (List.replicate n (TL.tl z)).flatten := by
    show ((List.replicate n z.cps).foldl (· ++ ·) #[]).toList = _
    rw [fold_app]
    rfl
  have hul : (⟨(List.replicate n z.cps).foldl (· ++ ·) #[]⟩ : Str).length = n * z.length := by
    rw [TL.len_tl, htl]
    exact hlen
  refine PySem.P.mul_str (by rw [Bool.or_eq_false_iff]; exact ⟨decide_eq_false (by omega), decide_eq_false (by omega)⟩) (fun _ _ => ?_) (fun _ _ => ?_) ?_
  · have : (100 : Int) ≤ (2 ^ 63 - 1) / (n : Int) := by
      rw [Int.le_ediv_iff_mul_le (by omega)]
      omega
    omega
  · show decide (z.length * (n : Int).toNat > sizeLine) = false
    rw [Int.toNat_natCast, Nat.mul_comm]
    exact decide_eq_false (by rw [sizeLine_eq]; omega)
  · rw [if_neg hn1, hb, if_neg Bool.false_ne_true, Int.toNat_natCast]
    exact ⟨by rw [hul, sizeLine_eq]; omega, .str _, H, I.tok _, ⟨_, rfl⟩, q _ hul htl⟩
/-! ### a call whose raising is told -/
theorem pe_calS {X : Cx} {j k : Nat} {x : Str} {ps : List Str} {sp : Sp} {E : L2.St → XK} {e : Expr} {es : List Expr} {t : TA} {p pos : Pos} {CX : CXT} (C : Cal X.prog X.w X.K X.mg X.base CX j x ps sp) (hr : Room k X.A) (hg : Gl X x)
    (hx : ∀ σ, PassesAt CX X σ (E σ)) (ha : PA X (e :: es) t) (hk : j ≤ k := by decide) (hdb : (x == ("__debug__" : Str)) = false := by decide) (he : starEach (e :: es) X.env = (false, eval e X.env) :: starEach es X.env := by rfl)
    (hpl : (backTo pos (starEach es X.env)).any (·.1) = false := by rfl) : PE X (.Call (.Name x p) (e :: es) [] pos) (tCallS sp E t) := by
  obtain ⟨f, fd, hm, kp, hb, F⟩ := C.ex
  exact pe_callS F (hr.mono hk) hg hm kp hb hx ha hdb he hpl
end Hd
set_option maxHeartbeats 4000000
/-! enumerate of a tuple. -/
namespace Hd
open PySem PySem.Spec PyProof.Rows L2
open AutoSeq1 (wpAny_loadPart')
theorem enumNewT (q : Addr) (zs : Array Value) (m : Nat) (od : Option Addr) (so : Array (Option Value)) :
    Meets (Builtin.«enumerate.__new__» ⟨[.type "enumerate", .ref q], []⟩) (fun _ R s =>
      s.heap.get? q = some { cls := .type "tuple", dict := od, data := .seq zs m, slots := so } ∧
      R (.ok (.ret (.ref (s.heap.push { cls := .type "tuple_iterator", data := .fields #[.ref q, .int 0 0] }).objs.size)))
        ⟨(s.heap.push { cls := .type "tuple_iterator", data := .fields #[.ref q, .int 0 0] }).push
              { cls := .type "enumerate", data := .fields #[.none, .bool false, .ref s.heap.objs.size, rawInt 0, .none, .none] }, s.gens, s.drawn, s.toks, s.os⟩) :=
  .of_wp fun P0 w0 A0 R0 s0 k0 => by
    obtain ⟨h0, g0, d0, t0, o0⟩ := s0
    obtain ⟨hq, k0⟩ := k0
    have subE := sub_enumerate
    have isT : Heap.IsTuple (Shared.heap ⟨h0, g0, d0, t0, o0⟩) q zs := ⟨_, hq, rfl, m, rfl⟩
    wp_walk using wpAny_loadPart' hq
    refine wpAny_stack_any fun _ => wpAny_pure ?_
    split
    · rename_i c _ _ _ _ _
      cases (c == Value.type "enumerate") <;> (wp_walk using wpAny_loadPart' hq, wpAny_pyIter_tuple isT; exact ⟨_, rfl, k0⟩)
    · wp_walk using wpAny_loadPart' hq, wpAny_pyIter_tuple isT
      exact ⟨_, rfl, k0⟩
theorem enumCallT {prog : Program} {w : World} {A : Around} {E : Value → Shared → Prop} {s : Shared} {q : Addr} {zs : Array Value} {Q : Value → Shared → Prop} (isT : s.heap.IsTuple q zs)
    (k : ∀ h', IsEnum h' (s.heap.objs.size + 1) s.heap.objs.size 0 .none → h'.IsTupleIter s.heap.objs.size q 0 → (∀ b o, s.heap.get? b = some o → h'.get? b = some o) → Q (.ref (s.heap.objs.size + 1)) { s with heap := h' }) :
    wpAny (model prog w) A (call (.type "enumerate") [.ref q]) Q E s := by
  obtain ⟨⟨oc, od, dt, so⟩, hq, hc, m, hd⟩ := isT
  replace hc : oc = .type "tuple" := hc
  replace hd : dt = .seq zs m := hd
  subst hc hd
  refine callType_new F.called_enumerate (by decide) (F.typeCall_enumerate_1 _) (F.newCall_enumerate_1 _)
    (fun obj => F.args_object_init_2 obj _) F.entry_enumerate_new (enumNewT q zs m od so) ⟨hq, ?_⟩
  have hz : (s.heap.push { cls := .type "tuple_iterator", data := .fields #[.ref q, .int 0 0] }).objs.size = s.heap.objs.size + 1 := Heap.size_push ..
  show _ ∧ _
  rw [hz]
  have he : IsEnum ((s.heap.push { cls := .type "tuple_iterator", data := .fields #[.ref q, .int 0 0] }).push
      { cls := .type "enumerate", data := .fields #[.none, .bool false, .ref s.heap.objs.size, rawInt 0, .none, .none] })
      (s.heap.objs.size + 1) s.heap.objs.size 0 .none := by
    have := Heap.get?_push_size (s.heap.push { cls := .type "tuple_iterator", data := .fields #[.ref q, .int 0 0] })
      (o := { cls := .type "enumerate", data := .fields #[.none, .bool false, .ref s.heap.objs.size, rawInt 0, .none, .none] }) rfl
    rw [hz] at this
    exact this
  exact ⟨⟨_, he, rfl⟩, k _ he ⟨({ cls := .type "tuple_iterator", data := .fields #[.ref q, .int 0 0] } : Obj), Heap.get?_push_of_some _ (Heap.get?_push_size _ rfl), rfl, rfl⟩
    fun b o x => Heap.get?_push_of_some _ (Heap.get?_push_of_some _ x)⟩
/-- the tuple at a, each item in a new pair -/
def IteT (K : PySem.W.Frag) (a : Addr) : It where
  go := fun i H => ∃ (xs : List V) (x : V), SqT K H a xs ∧ xs[i]? = some x
  yld := fun i H v H' => ∃ T x, v = .ref T ∧ H T = none ∧ H' = upd H T (.tup [.int (i : Nat), x]) ∧ ∀ xs, SqT K H a xs → xs[i]? = some x
  stop := fun i H => ∃ xs : List V, SqT K H a xs ∧ xs.length = i
theorem tupNe {h : Heap} {a it : Addr} {zs : Array Value} {i : Nat} (t : h.IsTuple a zs) (j : h.IsTupleIter it a i) : a ≠ it := fun z => by
  obtain ⟨o, h1, h2, _⟩ := t
  obtain ⟨o', h3, h4, _⟩ := j
  rw [z, h3] at h1
  cases h1
  rw [h2] at h4
  injection h4 with h5
  exact absurd h5 (by decide)
theorem enumNe {h : Heap} {a e it : Addr} {zs : Array Value} {c : Int} {v : Value} (t : h.IsTuple a zs) (j : IsEnum h e it c v) : e ≠ a := fun z => by
  obtain ⟨o, h1, h2, _⟩ := t
  have j' : h.get? e = some _ := j
  rw [z, h1] at j'
  have j2 := Option.some.inj j'
  rw [j2] at h2
  injection h2 with h5
  exact absurd h5 (by decide)
theorem turn_enumT {P : Program} {w : World} {K : PySem.W.Frag} {elts : List Expr} {kk : Nat} {tpos : Pos} (a e it : Addr) :
    Turn P w K (.Tuple elts kk tpos) (IteT K a) [e, it] e (fun i h => (∃ old, IsEnum h e it ((i : Nat) : Int) old) ∧ h.IsTupleIter it a i ∧ e ≠ it) where
  mem := List.mem_cons_self
  obj := fun i h st b hb => by
    obtain ⟨⟨old, he⟩, ⟨o, ho, hc, hd⟩, _⟩ := st
    rcases (show b = e ∨ b = it by simpa using hb) with z | z
    · subst z
      exact ⟨_, he, fun v q => nomatch q⟩
    · subst z
      exact ⟨o, ho, fun v q => by rw [hd] at q; cases q⟩
  keep := fun i h h' st k => by
    obtain ⟨⟨old, he⟩, hi, hne⟩ := st
    exact ⟨⟨old, k e (by simp) _ he⟩, hi.at fun o q => k it (by simp) o q, hne⟩
  item := by
    intro X hP hw hK hc i pins s σ H E I hf st hg
    subst hP hw hK
    obtain ⟨⟨old, he⟩, hit, hne⟩ := st
    obtain ⟨xs, x, hq, hx⟩ := hg
    obtain ⟨its, rv, p, hz⟩ := I.tuple hq
    have isT : s.heap.IsTuple a its.toArray := p
    have hel : e < s.heap.objs.size := Heap.lt_size he
    have hil : it < s.heap.objs.size := by
      obtain ⟨_, q, _⟩ := hit
      exact Heap.lt_size q
    have hai := tupNe isT hit
    have hea := enumNe isT he
    have hlt : i < its.toArray.size := by
      have z := (List.getElem?_eq_some_iff.mp hx).1
      have l := rv.length
      simp
      omega
    have D := Draws.tuple (prog := X.prog) (w := X.w) (A := X.A.in1) (I.ok.hd hc) it a hai its.toArray
    refine wpAny_pyNext_enum_itemC D he ⟨hit, isT⟩ hlt hne (by simp [hne, hea]) fun u h' tk hu ho st' hT hsz hk => ?_
    refine ⟨_, rfl, wpAny_letOwnedTupleGo_enum (s := { s with heap := h', toks := tk + 1 }) ho fun h'' he' sb => ?_⟩
    obtain ⟨u', hu', ru⟩ := rv.get hx
    have euu : u' = u := by
      have z : its[i]? = some u := by simpa using hu
      rw [hu'] at z
      exact Option.some.inj z
    subst euu
    have hT2 : h''.get? s.heap.objs.size = some { cls := .type "tuple", data := .seq #[.int i tk, u'] } := (sb.2 _ (Nat.ne_of_gt hel)).trans hT
    have new : ObjOk X.prog X.w (upd H s.heap.objs.size (.tup [.int (i : Nat), x])) h'' s.heap.objs.size (.tup [.int (i : Nat), x]) :=
      ⟨by show 2 ≤ sizeLine; decide, [.int i tk, u'], .cons ⟨_, rfl⟩ (.cons ru .nil), ⟨_, hT2, rfl, _, rfl⟩⟩
    have J : Inv X pins σ (upd H s.heap.objs.size (.tup [.int (i : Nat), x])) { s with heap := h'', toks := tk + 1 } :=
      I.turnedNew (ch := [e, it]) (fun b ob hb q => (sb.2 b fun z => hb (by simp [z])).trans (hk b ob (fun z => hb (by simp [z])) (fun z => hb (by simp [z])) q)) hf (Nat.le_refl _) new
    refine ⟨.ref s.heap.objs.size, _, J, rfl, ⟨_, x, rfl, I.hok.fresh (Nat.le_refl _), rfl, fun ys hy => by rw [I.tuple_inj hy hq]; exact hx⟩,
      ⟨⟨u', ?_⟩, st'.1.at fun o q => (sb.2 it (Ne.symm hne)).trans q, hne⟩, fun b hb => ?_⟩
    · have e1 : ((i + 1 : Nat) : Int) = (i : Int) + 1 := by omega
      rw [e1]
      exact he'
    · have hb' : b < s.heap.objs.size := by
        rcases (show b = e ∨ b = it by simpa using hb) with z | z
        · rw [z]
          exact hel
        · rw [z]
          exact hil
      rw [upd_ne (Nat.ne_of_lt hb')]
      exact (hf b hb).1
  done := by
    intro X hP hw hK hc i pins s σ H E I hf st hg
    subst hP hw hK
    obtain ⟨⟨old, he⟩, hit, hne⟩ := st
    obtain ⟨xs, hq, hx⟩ := hg
    obtain ⟨its, rv, p, hz⟩ := I.tuple hq
    have isT : s.heap.IsTuple a its.toArray := p
    have hai := tupNe isT hit
    obtain ⟨f0, f1, f2, f3, f4, f5⟩ := hf it (by simp)
    have D := Draws.tuple (prog := X.prog) (w := X.w) (A := X.A.in1) (I.ok.hd hc) it a hai its.toArray
    have ei : its.toArray.size = i := by
      have l := rv.length
      simp
      omega
    refine wpAny_pyNext_enum_endD D he ⟨by rw [ei]; exact hit, isT⟩ fun h' eb => ⟨rfl, ?_⟩
    exact I.turned (t' := s.toks) (fun b o hb q => eb b o hb q) f0 f1 f3 f4 f5
  self := fun A i s Q E st k => by
    obtain ⟨⟨_, he⟩, _⟩ := st
    exact wpAny_pyIter_enum he k
def iEnumT (K : PySem.W.Frag) (ta : TA) : TI := fun σ H R => ta σ H fun vs H1 => ∃ a xs, vs = [.ref a] ∧ SqT K H1 a xs ∧ R (IteT K a) H1
theorem pi_enumT {X : Cx} {e : Expr} {ta : TA} {p pos tpos : Pos} {elts : List Expr} {kk : Nat} (hg : Gl X "enumerate") (hm : X.mg "enumerate" = none) (ha : PA X [e] ta)
    (hs : starEach [e] X.env = [(false, eval e X.env)] := by rfl) : PI X (.Tuple elts kk tpos) (.Call (.Name "enumerate" p) [e] [] pos) (iEnumT X.K ta) := by
  refine ⟨fun pins s σ H R I h => ?_⟩
  refine Call_ (ld_blt I hg hm boot_enumerate (PyProof.Rows.callWith_type1 (thn (ha.run pos pins s σ H _ I h) fun us s1 hh => ?_) hs rfl))
  obtain ⟨vs, H1, I1, r1, a, xs, ex, hq, q⟩ := hh
  subst ex
  rw [Vals.ref1 r1]
  obtain ⟨its, rv, p', hz⟩ := I1.tuple hq
  refine enumCallT (show s1.heap.IsTuple a its.toArray from p') fun h' he hit hk => wpAny_pyIter_enum he ?_
  have I2 : Inv X pins σ H1 { s1 with heap := h' } := I1.kept (t' := s1.toks) hk
  refine ⟨s1.heap.objs.size + 1, [s1.heap.objs.size + 1, s1.heap.objs.size], _, _, H1, rfl, I2, turn_enumT a (s1.heap.objs.size + 1) s1.heap.objs.size,
    ⟨⟨.none, he⟩, hit, Nat.succ_ne_self _⟩, fun b hb => ?_, q⟩
  have hle : s1.heap.objs.size ≤ b := by
    rcases (show b = s1.heap.objs.size + 1 ∨ b = s1.heap.objs.size by simpa using hb) with z | z
    · rw [z]
      exact Nat.le_add_right _ _
    · rw [z]
      exact Nat.le_refl _
  exact I1.fpOk hle (I1.hok.fresh hle)
theorem walk_enumT {K : PySem.W.Frag} {a : Addr} {xs : List V} : Walk (IteT K a) xs.length (fun H => SqT K H a xs) (YPair (fun i => some (.int (i : Nat))) (fun i => xs[i]?)) := by
  refine ⟨fun i _ hi q => ⟨xs, xs[i], q, by simp [hi]⟩, fun _ q => ⟨xs, q, rfl⟩, fun i H v H' _ q y => ?_⟩
  obtain ⟨T, x, h1, h2, h3, h4⟩ := y
  exact ⟨T, .int (i : Nat), x, h1, h2, h3, rfl, h4 xs q⟩
end Hd
set_option maxHeartbeats 4000000
/-! min and max of a tuple of ints. -/
namespace Hd
open PySem PySem.Spec PyProof.Rows L2
theorem reads_ints {h : Heap} : ∀ {us : List Value} {ns : List Int}, IntsAre us ns → ReadsAll h us (ns.map PyData.int) []
  | _, _, .nil => .nil
  | _, _, .cons n t r => ReadsAll.cons (as := []) (bs := []) (.int n t) (reads_ints r)
theorem deep_ints : ∀ ns : List Int, PyData.depthAll (ns.map PyData.int) = 0
  | [] => by simp [PyData.depthAll]
  | n :: ns => by
    have := deep_ints ns
    simp only [List.map_cons, PyData.depthAll, PyData.depth]
    omega
theorem alike_ints (ns : List Int) : PySem.W.AlikeAll (ns.map PyData.int) := by
  refine ⟨fun x hx y hy => ?_, fun x hx => ?_⟩
  · obtain ⟨n, _, rfl⟩ := List.mem_map.mp hx
    obtain ⟨m, _, rfl⟩ := List.mem_map.mp hy
    first | rfl | simp [PySem.W.alike]
  · obtain ⟨n, _, rfl⟩ := List.mem_map.mp hx
    intro z
    cases z
section
variable {X : Cx}
def rMinT (K : PySem.W.Frag) : List V → Hp → VK → Prop := fun vs H Q => ∃ (a : Addr) (n : Int) (ns : List Int), vs = [V.ref a] ∧ SqT K H a ((n :: ns).map V.int) ∧ Q (.int (ns.foldl min n)) H
def rMaxT (K : PySem.W.Frag) : List V → Hp → VK → Prop := fun vs H Q => ∃ (a : Addr) (n : Int) (ns : List Int), vs = [V.ref a] ∧ SqT K H a ((n :: ns).map V.int) ∧ Q (.int (ns.foldl max n)) H
theorem cr_minT (hc : X.calm = true) (hu : X.A.units + 64 < cLine) : CallR X (.builtin "min") (rMinT X.K) := by
  intro pins s σ H vs us Q I r h
  obtain ⟨a, n, ns, rfl, hs, q⟩ := h
  obtain ⟨its, rv, hl, _⟩ := I.tuple hs
  rw [Vals.ref1 r]
  refine PySem.W.min_tuple_data (x := .int n) (xs := ns.map PyData.int) (I.ok.hd hc) (show s.heap.IsTuple a its.toArray from hl) (by simpa using reads_ints (h := s.heap) rv.ints) (alike_ints (n :: ns)) ?_ fun i v h' tk bs hv hr hk => ?_
  · have := deep_ints (n :: ns)
    rw [List.map_cons] at this
    omega
  · rw [PySem.W.minD_ints] at hr
    cases hr with
    | int _ t => exact ⟨.int _, H, I.kept hk, ⟨t, rfl⟩, q⟩
theorem cr_maxT (hc : X.calm = true) (hu : X.A.units + 64 < cLine) : CallR X (.builtin "max") (rMaxT X.K) := by
  intro pins s σ H vs us Q I r h
  obtain ⟨a, n, ns, rfl, hs, q⟩ := h
  obtain ⟨its, rv, hl, _⟩ := I.tuple hs
  rw [Vals.ref1 r]
  refine PySem.W.max_tuple_data (x := .int n) (xs := ns.map PyData.int) (I.ok.hd hc) (show s.heap.IsTuple a its.toArray from hl) (by simpa using reads_ints (h := s.heap) rv.ints) (alike_ints (n :: ns)) ?_ fun i v h' tk bs hv hr hk => ?_
  · have := deep_ints (n :: ns)
    rw [List.map_cons] at this
    omega
  · rw [PySem.W.maxD_ints] at hr
    cases hr with
    | int _ t => exact ⟨.int _, H, I.kept hk, ⟨t, rfl⟩, q⟩
end
end Hd
set_option maxHeartbeats 4000000
/-! Steps of heaps, plans that can be made: numbers alone. -/
namespace Hd
open PySem PySem.Spec PyProof.Rows L2
def can (ns : List Int) (i j : Nat) : Bool := decide (0 < ns.getD j 0) && decide (ns.getD j 0 ≤ ns.getD i 0)
def shf (ns : List Int) (i j : Nat) (m : Int) : List Int := (ns.set i (ns.getD i 0 - m)).set j (ns.getD j 0 + m)
def mv (ns : List Int) (i j : Nat) : List Int := shf ns i j (ns.getD j 0)
theorem can_iff {ns : List Int} {i j : Nat} : can ns i j = true ↔ 0 < ns.getD j 0 ∧ ns.getD j 0 ≤ ns.getD i 0 := by
  unfold can
  simp only [Bool.and_eq_true, decide_eq_true_eq]
theorem len_mv (ns : List Int) (i j : Nat) : (mv ns i j).length = ns.length := by
  unfold mv shf
  rw [List.length_set, List.length_set]
theorem getD_set {ns : List Int} {i k : Nat} {v : Int} : (ns.set i v).getD k 0 = if k = i ∧ i < ns.length then v else ns.getD k 0 := by
  rw [List.getD_eq_getElem?_getD, List.getElem?_set, List.getD_eq_getElem?_getD]
  by_cases h : i = k
  · subst h
    rw [if_pos rfl]
    by_cases h2 : i < ns.length
    · rw [if_pos h2, if_pos ⟨rfl, h2⟩]
      rfl
    · rw [if_neg h2, if_neg fun z => h2 z.2, List.getElem?_eq_none (by omega)]
  · rw [if_neg h, if_neg fun z => h z.1.symm]
theorem getD_mv {ns : List Int} {i j k : Nat} (hi : i < ns.length) (hj : j < ns.length) (hij : i ≠ j) : (mv ns i j).getD k 0 = if k = j then 2 * ns.getD j 0 else if k = i then ns.getD i 0 - ns.getD j 0 else ns.getD k 0 := by
  unfold mv shf
  rw [getD_set, getD_set, List.length_set]
  by_cases h : k = j
  · rw [if_pos ⟨h, hj⟩, if_pos h]
    omega
  · rw [if_neg fun z => h z.1, if_neg h]
    by_cases h2 : k = i
    · rw [if_pos ⟨h2, hi⟩, if_pos h2]
    · rw [if_neg fun z => h2 z.1, if_neg h2]
/-- nothing below 0 -/
def NN (ns : List Int) : Prop := ∀ k, 0 ≤ ns.getD k 0
theorem nn_of {ns : List Int} (h : ∀ n ∈ ns, 0 ≤ n) : NN ns := fun k => by
  rw [List.getD_eq_getElem?_getD]
  cases e : ns[k]? with
  | none => exact Int.le_refl _
  | some v => exact h v (List.mem_of_getElem? e)
theorem NN.mem {ns : List Int} (h : NN ns) : ∀ n ∈ ns, 0 ≤ n := fun n hn => by
  obtain ⟨k, hk, e⟩ := List.mem_iff_getElem.mp hn
  have := h k
  rw [List.getD_eq_getElem?_getD, List.getElem?_eq_getElem hk] at this
  rw [← e]
  exact this
theorem NN.mv {ns : List Int} {i j : Nat} (h : NN ns) (hi : i < ns.length) (hj : j < ns.length) (hij : i ≠ j) (hc : can ns i j = true) : NN (mv ns i j) := fun k => by
  rw [getD_mv hi hj hij]
  obtain ⟨c1, c2⟩ := can_iff.mp hc
  have := h k
  split
  · omega
  · split <;> omega
theorem sum_set : ∀ (ns : List Int) (i : Nat) (v : Int), i < ns.length → (ns.set i v).sum = ns.sum + v - ns.getD i 0
  | [], i, v, h => absurd h (by simp)
  | x :: r, 0, v, _ => by
    simp only [List.set_cons_zero, List.sum_cons, List.getD_cons_zero]
    omega
  | x :: r, i + 1, v, h => by
    simp only [List.set_cons_succ, List.sum_cons, List.getD_cons_succ]
    rw [sum_set r i v (by simpa using h)]
    omega
theorem sum_mv {ns : List Int} {i j : Nat} (hi : i < ns.length) (hj : j < ns.length) (hij : i ≠ j) : (mv ns i j).sum = ns.sum := by
  unfold Hd.mv shf
  rw [sum_set _ _ _ (by rw [List.length_set]; exact hj), sum_set _ _ _ hi, getD_set, if_neg fun z => hij z.1.symm]
  omega
/-- the whole is at least what lies at unlike places -/
theorem sum_ge : ∀ (ns : List Int), NN ns → 0 ≤ ns.sum
  | [], _ => by simp
  | x :: r, h => by
    have := h 0
    have := sum_ge r fun k => by simpa using h (k + 1)
    simp only [List.sum_cons, List.getD_cons_zero] at *
    omega
theorem sum_del (ns : List Int) (i : Nat) (h : NN ns) (hi : i < ns.length) : (ns.set i 0).sum = ns.sum - ns.getD i 0 ∧ NN (ns.set i 0) := by
  refine ⟨by rw [sum_set _ _ _ hi]; omega, fun k => ?_⟩
  rw [getD_set]
  split
  · exact Int.le_refl _
  · exact h k
theorem sum_one {ns : List Int} {i : Nat} (h : NN ns) : ns.getD i 0 ≤ ns.sum := by
  by_cases hi : i < ns.length
  · obtain ⟨e, n⟩ := sum_del ns i h hi
    have := sum_ge _ n
    omega
  · rw [List.getD_eq_getElem?_getD, List.getElem?_eq_none (by omega)]
    exact sum_ge _ h
theorem sum_three {ns : List Int} {i j k : Nat} (h : NN ns) (hi : i < ns.length) (hj : j < ns.length) (hk : k < ns.length) (hij : i ≠ j) (hik : i ≠ k) (hjk : j ≠ k) : ns.getD i 0 + ns.getD j 0 + ns.getD k 0 ≤ ns.sum := by
  obtain ⟨e1, n1⟩ := sum_del ns i h hi
  obtain ⟨e2, n2⟩ := sum_del (ns.set i 0) j n1 (by rw [List.length_set]; exact hj)
  have e3 := sum_one (i := k) n2
  rw [getD_set, if_neg fun z => hjk z.1.symm, getD_set, if_neg fun z => hik z.1.symm] at e3
  rw [getD_set, if_neg fun z => hij z.1.symm] at e2
  omega
/-- a plan all of whose steps can be made -/
def run : List Int → List (Nat × Nat) → Option (List Int)
  | ns, [] => some ns
  | ns, s :: r => if can ns s.1 s.2 = true then run (mv ns s.1 s.2) r else none
theorem run_app : ∀ (ps : List (Nat × Nat)) (ns : List Int) (qs : List (Nat × Nat)), run ns (ps ++ qs) = (run ns ps).bind fun m => run m qs
  | [], ns, qs => rfl
  | p :: ps, ns, qs => by
    show (if can ns p.1 p.2 = true then run (mv ns p.1 p.2) (ps ++ qs) else none) = (if can ns p.1 p.2 = true then run (mv ns p.1 p.2) ps else none).bind _
    split
    · exact run_app ps _ qs
    · rfl
/-- the steps are of so many heaps -/
def Stp (n : Nat) (ps : List (Nat × Nat)) : Prop := ∀ p ∈ ps, p.1 < n ∧ p.2 < n ∧ p.1 ≠ p.2
theorem Stp.app {n : Nat} {ps qs : List (Nat × Nat)} (a : Stp n ps) (b : Stp n qs) : Stp n (ps ++ qs) := fun p hp => (List.mem_append.mp hp).elim (a p) (b p)
structure Gone (ns : List Int) (ps : List (Nat × Nat)) (m : List Int) : Prop where
  run : run ns ps = some m
  stp : Stp ns.length ps
theorem Gone.nil (ns : List Int) : Gone ns [] ns := ⟨rfl, fun p hp => nomatch hp⟩
theorem run_keeps : ∀ (ps : List (Nat × Nat)) (ns m : List Int), Stp ns.length ps → Hd.run ns ps = some m → m.length = ns.length ∧ m.sum = ns.sum ∧ (NN ns → NN m) ∧ (∀ g : Int, (∀ k, g ∣ ns.getD k 0) → ∀ k, g ∣ m.getD k 0)
  | [], ns, m, _, e => by
    have e' : ns = m := Option.some.inj e
    subst e'
    exact ⟨rfl, rfl, id, fun _ h => h⟩
  | p :: ps, ns, m, st, e => by
    obtain ⟨a, b, c⟩ := st p List.mem_cons_self
    have e' : (if can ns p.1 p.2 = true then Hd.run (Hd.mv ns p.1 p.2) ps else none) = some m := e
    by_cases hc : can ns p.1 p.2 = true
    · rw [if_pos hc] at e'
      obtain ⟨h1, h2, h3, h4⟩ := run_keeps ps (Hd.mv ns p.1 p.2) m (fun q hq => by rw [len_mv]; exact st q (List.mem_cons_of_mem _ hq)) e'
      rw [len_mv] at h1
      rw [sum_mv a b c] at h2
      refine ⟨h1, h2, fun n => h3 (n.mv a b c hc), fun g hg => h4 g fun k => ?_⟩
      rw [getD_mv a b c]
      split
      · exact Int.dvd_trans (hg p.2) (Int.dvd_mul_left _ _)
      · split
        · exact Int.dvd_sub (hg _) (hg _)
        · exact hg k
    · rw [if_neg hc] at e'
      cases e'
theorem Gone.len {ns m : List Int} {ps : List (Nat × Nat)} (h : Gone ns ps m) : m.length = ns.length := (run_keeps ps ns m h.stp h.run).1
theorem Gone.sum {ns m : List Int} {ps : List (Nat × Nat)} (h : Gone ns ps m) : m.sum = ns.sum := (run_keeps ps ns m h.stp h.run).2.1
theorem Gone.nn {ns m : List Int} {ps : List (Nat × Nat)} (h : Gone ns ps m) (n : NN ns) : NN m := (run_keeps ps ns m h.stp h.run).2.2.1 n
theorem Gone.dvd {ns m : List Int} {ps : List (Nat × Nat)} (h : Gone ns ps m) {g : Int} (n : ∀ k, g ∣ ns.getD k 0) : ∀ k, g ∣ m.getD k 0 := (run_keeps ps ns m h.stp h.run).2.2.2 g n
theorem Gone.app {ns m r : List Int} {ps qs : List (Nat × Nat)} (a : Gone ns ps m) (b : Gone m qs r) : Gone ns (ps ++ qs) r := by
  refine ⟨?_, a.stp.app ?_⟩
  · rw [run_app, a.run]
    exact b.run
  · rw [← a.len]
    exact b.stp
theorem Gone.one {ns : List Int} {i j : Nat} (hi : i < ns.length) (hj : j < ns.length) (hij : i ≠ j) (hc : can ns i j = true) : Gone ns [(i, j)] (Hd.mv ns i j) := by
  refine ⟨?_, fun p hp => ?_⟩
  · show (if can ns i j = true then some (Hd.mv ns i j) else none) = _
    rw [if_pos hc]
  · have e : p = (i, j) := by simpa using hp
    subst e
    exact ⟨hi, hj, hij⟩
/-! ### halving -/
/-- the state within halving: q the figures left, r those that are through, e the weight; the heaps ns at lo, mi, hi are m's there -/
structure Hv (ns : List Int) (lo mi hi : Nat) (p q r e : Int) (ps : List (Nat × Nat)) (m : List Int) : Prop where
  go : Gone ns ps m
  pq : p = q * e + r
  r0 : 0 ≤ r
  re : r < e
  q1 : 1 ≤ q
  len : e = 2 ^ ps.length
  lo_ : m.getD lo 0 = e * ns.getD lo 0
  mi_ : m.getD mi 0 = ns.getD mi 0 - r * ns.getD lo 0
  hi_ : m.getD hi 0 = ns.getD hi 0 - (e - 1 - r) * ns.getD lo 0
  un : ∀ k, k ≠ lo → k ≠ mi → k ≠ hi → m.getD k 0 = ns.getD k 0
/-- three heaps, the least first -/
structure Three (ns : List Int) (lo mi hi : Nat) : Prop where
  blo : lo < ns.length
  bmi : mi < ns.length
  bhi : hi < ns.length
  n1 : lo ≠ mi
  n2 : lo ≠ hi
  n3 : mi ≠ hi
  pos : 0 < ns.getD lo 0
  le1 : ns.getD lo 0 ≤ ns.getD mi 0
  le2 : ns.getD mi 0 ≤ ns.getD hi 0
theorem near_ok {a b : Int} (ha : 0 < a) (hab : a ≤ b) : 1 ≤ (2 * b + a - 1) / (2 * a) ∧ -a < 2 * b - 2 * ((2 * b + a - 1) / (2 * a) * a) ∧ 2 * b - 2 * ((2 * b + a - 1) / (2 * a) * a) ≤ a := by
  have h1 := Int.mul_ediv_add_emod (2 * b + a - 1) (2 * a)
  have h2 := Int.emod_nonneg (2 * b + a - 1) (show 2 * a ≠ 0 by omega)
  have h3 := Int.emod_lt_of_pos (2 * b + a - 1) (show 0 < 2 * a by omega)
  have h4 : 1 ≤ (2 * b + a - 1) / (2 * a) := by
    rw [Int.le_ediv_iff_mul_le (by omega)]
    omega
  have h5 : 2 * a * ((2 * b + a - 1) / (2 * a)) = 2 * ((2 * b + a - 1) / (2 * a) * a) := by
    rw [Int.mul_assoc, Int.mul_comm a]
  rw [h5] at h1
  refine ⟨h4, by omega, by omega⟩
theorem Hv.start {ns : List Int} {lo mi hi : Nat} {p : Int} (hp : 1 ≤ p) : Hv ns lo mi hi p p 0 1 [] ns :=
  ⟨.nil _, by omega, by omega, by omega, hp, rfl, by omega, by omega, by omega, fun _ _ _ _ => rfl⟩
theorem Hv.next {ns m : List Int} {lo mi hi : Nat} {p q r e : Int} {ps : List (Nat × Nat)} (T : Three ns lo mi hi) (h : Hv ns lo mi hi p q r e ps m) (hpa : (p - 1) * ns.getD lo 0 ≤ ns.getD mi 0) (hq : 1 < q) (g : Nat) (hg : g = if q % 2 = 1 then mi else hi) :
    Hv ns lo mi hi p (q / 2) (if q % 2 = 1 then r + e else r) (2 * e) (ps ++ [(g, lo)]) (mv m g lo) := by
  have hlen := h.go.len
  have a0 := T.pos
  have e1 : q = 2 * (q / 2) + q % 2 := by omega
  have hq2 : 1 ≤ q / 2 := by omega
  have he : 0 < e := by
    have := h.r0
    have := h.re
    omega
  have pe : 2 * e ≤ (q / 2) * (2 * e) := by
    have := Int.mul_le_mul_of_nonneg_right hq2 (show 0 ≤ 2 * e by omega)
    omega
  have r0 := h.r0
  have re := h.re
  have ea : 0 < e * ns.getD lo 0 := Int.mul_pos he a0
  have d2 : 2 * e * ns.getD lo 0 = 2 * (e * ns.getD lo 0) := Int.mul_assoc _ _ _
  have hlo : lo < m.length := by rw [hlen]; exact T.blo
  by_cases hb : q % 2 = 1
  · rw [if_pos hb] at hg
    subst hg
    rw [if_pos hb]
    have ep : p = (q / 2) * (2 * e) + (r + e) := by
      have : q * e = (q / 2) * (2 * e) + e := by
        rw (occs := [1]) [e1]
        rw [hb, Int.add_mul, Int.one_mul, Int.mul_comm 2, Int.mul_assoc]
      have := h.pq
      omega
    have k1 : (r + e) * ns.getD lo 0 ≤ (p - 1) * ns.getD lo 0 := Int.mul_le_mul_of_nonneg_right (by omega) (by omega)
    have k2 : (r + e) * ns.getD lo 0 = r * ns.getD lo 0 + e * ns.getD lo 0 := Int.add_mul _ _ _
    have k3 : (2 * e - 1 - (r + e)) = e - 1 - r := by omega
    have hmi : g < m.length := by rw [hlen]; exact T.bmi
    have hc : can m g lo = true := can_iff.mpr (by rw [h.lo_, h.mi_]; omega)
    refine ⟨h.go.app (.one hmi hlo (Ne.symm T.n1) hc), ep, by omega, by omega, hq2, ?_, ?_, ?_, ?_, fun k x1 x2 x3 => ?_⟩
    · rw [List.length_append, h.len]
      show 2 * 2 ^ ps.length = 2 ^ (ps.length + 1)
      rw [Int.pow_succ, Int.mul_comm]
    · rw [getD_mv hmi hlo (Ne.symm T.n1), if_pos rfl, h.lo_, d2]
    · rw [getD_mv hmi hlo (Ne.symm T.n1), if_neg (Ne.symm T.n1), if_pos rfl, h.lo_, h.mi_, k2]
      omega
    · rw [getD_mv hmi hlo (Ne.symm T.n1), if_neg (Ne.symm T.n2), if_neg (Ne.symm T.n3), h.hi_, k3]
    · rw [getD_mv hmi hlo (Ne.symm T.n1), if_neg x1, if_neg x2]
      exact h.un k x1 x2 x3
  · rw [if_neg hb] at hg
    subst hg
    rw [if_neg hb]
    have ep : p = (q / 2) * (2 * e) + r := by
      have : q * e = (q / 2) * (2 * e) := by
        rw (occs := [1]) [e1]
        rw [show q % 2 = 0 by omega, Int.add_zero, Int.mul_comm 2, Int.mul_assoc]
      have := h.pq
      omega
    have k1 : (2 * e - 1 - r) * ns.getD lo 0 ≤ (p - 1) * ns.getD lo 0 := Int.mul_le_mul_of_nonneg_right (by omega) (by omega)
    have k2 : (2 * e - 1 - r) * ns.getD lo 0 = (e - 1 - r) * ns.getD lo 0 + e * ns.getD lo 0 := by
      rw [← Int.add_mul]
      congr 1
      omega
    have le2 := T.le2
    have hhi : g < m.length := by rw [hlen]; exact T.bhi
    have hc : can m g lo = true := can_iff.mpr (by rw [h.lo_, h.hi_]; omega)
    refine ⟨h.go.app (.one hhi hlo (Ne.symm T.n2) hc), ep, by omega, by omega, hq2, ?_, ?_, ?_, ?_, fun k x1 x2 x3 => ?_⟩
    · rw [List.length_append, h.len]
      show 2 * 2 ^ ps.length = 2 ^ (ps.length + 1)
      rw [Int.pow_succ, Int.mul_comm]
    · rw [getD_mv hhi hlo (Ne.symm T.n2), if_pos rfl, h.lo_, d2]
    · rw [getD_mv hhi hlo (Ne.symm T.n2), if_neg (Ne.symm T.n1), if_neg T.n3, h.mi_]
    · rw [getD_mv hhi hlo (Ne.symm T.n2), if_neg (Ne.symm T.n2), if_pos rfl, h.lo_, h.hi_, k2]
      omega
    · rw [getD_mv hhi hlo (Ne.symm T.n2), if_neg x1, if_neg x3]
      exact h.un k x1 x2 x3
/-- what halving is for: at one of the three places at most half of the least, elsewhere nothing new; so many steps that 2 to their number is at most the whole -/
structure Halved (ns : List Int) (lo mi hi : Nat) (ps : List (Nat × Nat)) (m : List Int) : Prop where
  go : Gone ns ps m
  half : ∃ k, (k = lo ∨ k = mi ∨ k = hi) ∧ 2 * m.getD k 0 ≤ ns.getD lo 0
  un : ∀ k, k ≠ lo → k ≠ mi → k ≠ hi → m.getD k 0 = ns.getD k 0
  len : (2 : Int) ^ ps.length ≤ ns.sum
theorem Hv.end {ns m : List Int} {lo mi hi : Nat} {p r e : Int} {ps : List (Nat × Nat)} (N : NN ns) (T : Three ns lo mi hi) (h : Hv ns lo mi hi p 1 r e ps m) (n1 : -ns.getD lo 0 < 2 * ns.getD mi 0 - 2 * (p * ns.getD lo 0)) (n2 : 2 * ns.getD mi 0 - 2 * (p * ns.getD lo 0) ≤ ns.getD lo 0) :
    Halved ns lo mi hi (ps ++ [if p * ns.getD lo 0 > ns.getD mi 0 then (lo, mi) else (mi, lo)]) (if p * ns.getD lo 0 > ns.getD mi 0 then mv m lo mi else mv m mi lo) := by
  have hlen := h.go.len
  have a0 := T.pos
  have r0 := h.r0
  have re := h.re
  have he : 0 < e := by omega
  have hlo : lo < m.length := by rw [hlen]; exact T.blo
  have hmi : mi < m.length := by rw [hlen]; exact T.bmi
  have ep : p = e + r := by
    have := h.pq
    omega
  have k1 : p * ns.getD lo 0 = e * ns.getD lo 0 + r * ns.getD lo 0 := by rw [ep, Int.add_mul]
  have k2 : 1 * ns.getD lo 0 ≤ e * ns.getD lo 0 := Int.mul_le_mul_of_nonneg_right (by omega) (by omega)
  have s3 := sum_three N T.blo T.bmi T.bhi T.n1 T.n2 T.n3
  have le2 := T.le2
  have elen : (2 : Int) ^ (ps.length + 1) ≤ ns.sum := by
    have q1 : (2 : Int) ^ (ps.length + 1) = 2 * e := by rw [Int.pow_succ, ← h.len, Int.mul_comm]
    have q2 : p * 1 ≤ p * ns.getD lo 0 := Int.mul_le_mul_of_nonneg_left (by omega) (by omega)
    omega
  by_cases hs : p * ns.getD lo 0 > ns.getD mi 0
  · rw [if_pos hs, if_pos hs]
    have hc : can m lo mi = true := can_iff.mpr (by rw [h.lo_, h.mi_]; omega)
    refine ⟨h.go.app (.one hlo hmi T.n1 hc), ⟨lo, .inl rfl, ?_⟩, fun k x1 x2 x3 => ?_, by rw [List.length_append]; exact elen⟩
    · rw [getD_mv hlo hmi T.n1, if_neg T.n1, if_pos rfl, h.lo_, h.mi_]
      omega
    · rw [getD_mv hlo hmi T.n1, if_neg x2, if_neg x1]
      exact h.un k x1 x2 x3
  · rw [if_neg hs, if_neg hs]
    have hc : can m mi lo = true := can_iff.mpr (by rw [h.lo_, h.mi_]; omega)
    refine ⟨h.go.app (.one hmi hlo (Ne.symm T.n1) hc), ⟨mi, .inr (.inl rfl), ?_⟩, fun k x1 x2 x3 => ?_, by rw [List.length_append]; exact elen⟩
    · rw [getD_mv hmi hlo (Ne.symm T.n1), if_neg (Ne.symm T.n1), if_pos rfl, h.lo_, h.mi_]
      omega
    · rw [getD_mv hmi hlo (Ne.symm T.n1), if_neg x1, if_neg x2]
      exact h.un k x1 x2 x3
end Hd
set_option maxHeartbeats 4000000
/-! Emptying one of three, all but two, all but one: numbers alone. -/
namespace Hd
open PySem PySem.Spec PyProof.Rows L2
/-! ### the heaps that are not empty -/
def fil (ns : List Int) : List Nat := (List.range ns.length).filter fun k => decide (0 < ns.getD k 0)
theorem mem_fil {ns : List Int} {k : Nat} : k ∈ fil ns ↔ k < ns.length ∧ 0 < ns.getD k 0 := by
  unfold fil
  rw [List.mem_filter, List.mem_range, decide_eq_true_eq]
theorem fil_sorted (ns : List Int) : (fil ns).Pairwise (· < ·) := List.Pairwise.filter _ List.pairwise_lt_range
theorem fil_le (ns : List Int) : (fil ns).length ≤ ns.length := Nat.le_trans (List.length_filter_le _ _) (by rw [List.length_range]; exact Nat.le_refl _)
theorem filter_lt {α : Type} {p q : α → Bool} : ∀ {l : List α}, (∀ x ∈ l, q x = true → p x = true) → (∃ x ∈ l, p x = true ∧ q x = false) → (l.filter q).length < (l.filter p).length
  | [], _, h => by
    obtain ⟨x, hx, _⟩ := h
    cases hx
  | x :: l, h1, h2 => by
    have ih : (l.filter q).length ≤ (l.filter p).length := by
      rw [← List.countP_eq_length_filter, ← List.countP_eq_length_filter]
      exact List.countP_mono_left fun y hy => h1 y (List.mem_cons_of_mem _ hy)
    rw [List.filter_cons, List.filter_cons]
    obtain ⟨y, hy, y1, y2⟩ := h2
    rcases List.mem_cons.mp hy with e | hy
    · subst e
      rw [y1, y2, if_pos rfl, if_neg (by decide)]
      exact Nat.lt_succ_of_le ih
    · have := filter_lt (l := l) (fun z hz => h1 z (List.mem_cons_of_mem _ hz)) ⟨y, hy, y1, y2⟩
      by_cases hq : q x = true
      · rw [if_pos hq, if_pos (h1 x List.mem_cons_self hq)]
        exact Nat.succ_lt_succ this
      · rw [if_neg hq]
        split
        · exact Nat.lt_succ_of_lt this
        · exact this
theorem fil_lt {ns m : List Int} (hl : m.length = ns.length) (h1 : ∀ k, 0 < m.getD k 0 → 0 < ns.getD k 0) (h2 : ∃ k, k < ns.length ∧ 0 < ns.getD k 0 ∧ m.getD k 0 ≤ 0) : (fil m).length < (fil ns).length := by
  unfold fil
  rw [hl]
  refine filter_lt (fun k _ h => decide_eq_true (h1 k (of_decide_eq_true h))) ?_
  obtain ⟨k, a, b, c⟩ := h2
  exact ⟨k, List.mem_range.mpr a, decide_eq_true b, decide_eq_false (by omega)⟩
theorem sum_zero : ∀ ns : List Int, (∀ k, ns.getD k 0 = 0) → ns.sum = 0
  | [], _ => rfl
  | x :: r, h => by
    have h0 := h 0
    have hr := sum_zero r fun k => by simpa using h (k + 1)
    simp only [List.getD_cons_zero] at h0
    simp only [List.sum_cons]
    omega
theorem sum_two {ns : List Int} {i j : Nat} (hi : i < ns.length) (hj : j < ns.length) (hij : i ≠ j) (h : ∀ k, k ≠ i → k ≠ j → ns.getD k 0 = 0) : ns.sum = ns.getD i 0 + ns.getD j 0 := by
  have e1 := sum_set ns i 0 hi
  have e2 := sum_set (ns.set i 0) j 0 (by rw [List.length_set]; exact hj)
  rw [getD_set, if_neg fun z => hij z.1.symm] at e2
  have e3 := sum_zero ((ns.set i 0).set j 0) fun k => by
    rw [getD_set, getD_set, List.length_set]
    by_cases a : k = j
    · rw [if_pos ⟨a, hj⟩]
    · rw [if_neg fun z => a z.1]
      by_cases b : k = i
      · rw [if_pos ⟨b, hi⟩]
      · rw [if_neg fun z => b z.1]
        exact h k b a
  omega
/-! ### one of three -/
/-- k is one of the three -/
def In3 (x y z k : Nat) : Prop := k = x ∨ k = y ∨ k = z
structure Trio (ns : List Int) (x y z : Nat) : Prop where
  bx : x < ns.length
  by_ : y < ns.length
  bz : z < ns.length
  n1 : x ≠ y
  n2 : x ≠ z
  n3 : y ≠ z
/-- so far within emptying: t halvings are done -/
structure Em (ns : List Int) (x y z : Nat) (F t : Nat) (ps : List (Nat × Nat)) (m : List Int) : Prop where
  go : Gone ns ps m
  le : ∃ k, In3 x y z k ∧ 2 ^ t * m.getD k 0 ≤ ns.sum
  un : ∀ k, ¬ In3 x y z k → m.getD k 0 = ns.getD k 0
  len : ps.length ≤ t * F
  tF : t ≤ F
theorem Em.start {ns : List Int} {x y z F : Nat} (N : NN ns) : Em ns x y z F 0 [] ns :=
  ⟨.nil _, ⟨x, .inl rfl, by have := sum_one (i := x) N; simpa using this⟩, fun _ _ => rfl, Nat.zero_le _, Nat.zero_le _⟩
theorem two_le {k F : Nat} {S : Int} (h : (2 : Int) ^ k ≤ S) (hS : S < 2 ^ F) : k < F := by
  by_cases c : k < F
  · exact c
  · have : (2 : Int) ^ F ≤ 2 ^ k := by
      have := Nat.pow_le_pow_right (show 0 < 2 by decide) (show F ≤ k by omega)
      have e : ∀ n : Nat, (2 : Int) ^ n = ((2 ^ n : Nat) : Int) := fun n => by simp
      rw [e, e]
      exact Int.ofNat_le.mpr this
    omega
/-- one halving more: the places in the order lo, mi, hi -/
theorem Em.next {ns m r : List Int} {x y z F t lo mi hi : Nat} {ps qs : List (Nat × Nat)} (h : Em ns x y z F t ps m) (hF : ns.sum < 2 ^ F) (hpos : ∀ k, In3 x y z k → 0 < m.getD k 0) (hin : ∀ k, In3 x y z k ↔ In3 lo mi hi k)
    (hlo : ∀ k, In3 x y z k → m.getD lo 0 ≤ m.getD k 0) (hv : Halved m lo mi hi qs r) : t < F ∧ Em ns x y z F (t + 1) (ps ++ qs) r := by
  obtain ⟨k, k1, k2⟩ := h.le
  have p2 : (0 : Int) < 2 ^ t := Int.pow_pos (by decide)
  have t1 : (2 : Int) ^ t * 1 ≤ 2 ^ t * m.getD k 0 := Int.mul_le_mul_of_nonneg_left (by have := hpos k k1; omega) (by omega)
  have ht : t < F := two_le (by omega) hF
  refine ⟨ht, h.go.app hv.go, ?_, fun j hj => ?_, ?_, ht⟩
  · obtain ⟨j, j1, j2⟩ := hv.half
    refine ⟨j, (hin j).mpr j1, ?_⟩
    have a1 : (2 : Int) ^ (t + 1) * r.getD j 0 = 2 ^ t * (2 * r.getD j 0) := by rw [Int.pow_succ, Int.mul_assoc]
    have a2 : (2 : Int) ^ t * (2 * r.getD j 0) ≤ 2 ^ t * m.getD k 0 := Int.mul_le_mul_of_nonneg_left (by have := hlo k k1; omega) (by omega)
    omega
  · rw [hv.un j (fun e => hj ((hin j).mpr (.inl e))) (fun e => hj ((hin j).mpr (.inr (.inl e)))) (fun e => hj ((hin j).mpr (.inr (.inr e))))]
    exact h.un j hj
  · have hl := hv.len
    rw [h.go.sum] at hl
    have := two_le hl hF
    rw [List.length_append, Nat.add_mul]
    have := h.len
    omega
/-- what emptying is for -/
structure Emptied (ns : List Int) (F : Nat) (ps : List (Nat × Nat)) (m : List Int) : Prop where
  go : Gone ns ps m
  fewer : (fil m).length < (fil ns).length
  zero : ∃ k, k < ns.length ∧ m.getD k 0 = 0
  len : ps.length ≤ F * F
theorem Em.end {ns m : List Int} {x y z F t : Nat} {ps : List (Nat × Nat)} (N : NN ns) (T : Trio ns x y z) (hpos : ∀ k, In3 x y z k → 0 < ns.getD k 0) (h : Em ns x y z F t ps m) (k : Nat) (hk : In3 x y z k) (hz : m.getD k 0 ≤ 0) : Emptied ns F ps m := by
  have hkl : k < ns.length := by
    rcases hk with e | e | e <;> subst e
    · exact T.bx
    · exact T.by_
    · exact T.bz
  refine ⟨h.go, fil_lt h.go.len (fun j hj => ?_) ⟨k, hkl, hpos k hk, hz⟩, ⟨k, hkl, ?_⟩, Nat.le_trans h.len (Nat.mul_le_mul_right F h.tF)⟩
  · by_cases c : In3 x y z j
    · exact hpos j c
    · rw [← h.un j c]
      exact hj
  · have := h.go.nn N k
    omega
/-! ### all but two -/
structure Pr (ns : List Int) (F : Nat) (ps : List (Nat × Nat)) (m : List Int) : Prop where
  go : Gone ns ps m
  len : ps.length + (fil m).length * (F * F) ≤ (fil ns).length * (F * F)
theorem Pr.start (ns : List Int) (F : Nat) : Pr ns F [] ns := ⟨.nil _, by simp⟩
theorem Pr.next {ns m r : List Int} {F : Nat} {ps qs : List (Nat × Nat)} (h : Pr ns F ps m) (e : Emptied m F qs r) : Pr ns F (ps ++ qs) r ∧ (fil r).length < (fil m).length := by
  refine ⟨⟨h.go.app e.go, ?_⟩, e.fewer⟩
  have a := Nat.mul_le_mul_right (F * F) (show (fil r).length + 1 ≤ (fil m).length from e.fewer)
  rw [Nat.add_mul, Nat.one_mul] at a
  rw [List.length_append]
  have := h.len
  have := e.len
  omega
/-! ### all but one -/
theorem pow_dvd_le {a b : Nat} (h : a ≤ b) (g : Int) : g * 2 ^ a ∣ g * 2 ^ b := by
  refine Int.mul_dvd_mul_left g ?_
  rw [← Nat.add_sub_cancel' h, Int.pow_add]
  exact Int.dvd_mul_right _ _
/-- so far within the walk of the two: m is where it stands behind t steps; g times 2 to the T is the whole -/
structure Wk (ns : List Int) (g : Int) (T t : Nat) (ps : List (Nat × Nat)) (m : List Int) : Prop where
  go : Gone ns ps m
  len : ps.length = t
  dv : ∀ k, g * 2 ^ t ∣ m.getD k 0
  two : (fil m).length ≤ 2
  tT : t ≤ T
theorem Wk.start {ns : List Int} {g : Int} {T : Nat} (hg : ∀ k, g ∣ ns.getD k 0) (h2 : (fil ns).length ≤ 2) : Wk ns g T 0 [] ns :=
  ⟨.nil _, rfl, fun k => by simpa using hg k, h2, Nat.zero_le _⟩
theorem Wk.pair {ns m : List Int} {g : Int} {T t : Nat} {ps : List (Nat × Nat)} (N : NN ns) (h : Wk ns g T t ps m) (h1 : 1 < (fil m).length) : ∃ i j, fil m = [i, j] ∧ i < m.length ∧ j < m.length ∧ i ≠ j ∧ 0 < m.getD i 0 ∧ 0 < m.getD j 0 ∧ m.getD i 0 + m.getD j 0 = ns.sum ∧ (∀ k, k ≠ i → k ≠ j → m.getD k 0 = 0) := by
  have h2 := h.two
  have hs := fil_sorted m
  match e : fil m, h1, h2 with
  | [i, j], _, _ =>
    have mi := (mem_fil (ns := m) (k := i)).mp (by rw [e]; simp)
    have mj := (mem_fil (ns := m) (k := j)).mp (by rw [e]; simp)
    have hij : i ≠ j := by
      rw [e] at hs
      have := (List.pairwise_cons.mp hs).1 j (by simp)
      omega
    have z : ∀ k, k ≠ i → k ≠ j → m.getD k 0 = 0 := fun k a b => by
      have n := h.go.nn N k
      by_cases hk : 0 < m.getD k 0
      · have hkl : k < m.length := by
          by_cases c : k < m.length
          · exact c
          · rw [List.getD_eq_getElem?_getD, List.getElem?_eq_none (by omega)] at hk
            exact absurd hk (by decide)
        have := (mem_fil (ns := m) (k := k)).mpr ⟨hkl, hk⟩
        rw [e] at this
        simp [a, b] at this
      · omega
    refine ⟨i, j, rfl, mi.1, mj.1, hij, mi.2, mj.2, ?_, z⟩
    rw [← sum_two mi.1 mj.1 hij z]
    exact h.go.sum
theorem Wk.next {ns m : List Int} {g : Int} {T t i j : Nat} {ps : List (Nat × Nat)} (h : Wk ns g T t ps m) (g0 : 0 < g) (hS : ns.sum = g * 2 ^ T) (hi : i < m.length) (hj : j < m.length) (hij : i ≠ j) (pj : 0 < m.getD j 0) (hle : m.getD j 0 ≤ m.getD i 0)
    (hs : m.getD i 0 + m.getD j 0 = ns.sum) (hz : ∀ k, k ≠ i → k ≠ j → m.getD k 0 = 0) : t < T ∧ can m i j = true ∧ Wk ns g T (t + 1) (ps ++ [(i, j)]) (mv m i j) := by
  have hc : can m i j = true := can_iff.mpr ⟨pj, hle⟩
  have p2 : (0 : Int) < 2 ^ t := Int.pow_pos (by decide)
  have l1 : g * 2 ^ t ≤ m.getD j 0 := Int.le_of_dvd pj (h.dv j)
  have tT : t < T := by
    by_cases c : t < T
    · exact c
    · have e : t = T := Nat.le_antisymm h.tT (by omega)
      rw [← e] at hS
      omega
  have d1 : g * 2 ^ (t + 1) ∣ ns.sum := by
    rw [hS]
    exact pow_dvd_le tT g
  have d2 : g * 2 ^ (t + 1) ∣ 2 * m.getD j 0 := by
    obtain ⟨c, hc⟩ := h.dv j
    refine ⟨c, ?_⟩
    rw [hc, Int.pow_succ, Int.mul_left_comm 2, Int.mul_assoc g, Int.mul_assoc g, Int.mul_assoc]
  refine ⟨tT, hc, h.go.app (.one hi hj hij hc), by rw [List.length_append, h.len]; rfl, fun k => ?_, ?_, tT⟩
  · rw [getD_mv hi hj hij]
    by_cases a : k = j
    · rw [if_pos a]
      exact d2
    · rw [if_neg a]
      by_cases b : k = i
      · rw [if_pos b, show m.getD i 0 - m.getD j 0 = ns.sum - 2 * m.getD j 0 by omega]
        exact Int.dvd_sub d1 d2
      · rw [if_neg b, hz k b a]
        exact Int.dvd_zero _
  · refine Nat.le_trans ?_ (h.two)
    unfold fil
    rw [len_mv, ← List.countP_eq_length_filter, ← List.countP_eq_length_filter]
    refine List.countP_mono_left fun k _ hk => ?_
    have hk' := of_decide_eq_true hk
    rw [getD_mv hi hj hij] at hk'
    by_cases a : k = j
    · subst a
      exact decide_eq_true pj
    · rw [if_neg a] at hk'
      by_cases b : k = i
      · subst b
        exact decide_eq_true (by omega)
      · rw [if_neg b] at hk'
        exact decide_eq_true hk'
/-- one step further along a plan that can be made -/
theorem run_take {ns m a : List Int} {ps : List (Nat × Nat)} {i : Nat} (h : run ns ps = some m) (hi : i < ps.length) (ha : run ns (ps.take i) = some a) : can a ps[i].1 ps[i].2 = true ∧ run ns (ps.take (i + 1)) = some (mv a ps[i].1 ps[i].2) := by
  have e : ps = ps.take i ++ (ps[i] :: ps.drop (i + 1)) := by rw [← List.drop_eq_getElem_cons hi, List.take_append_drop]
  have h2 : run ns (ps.take i ++ (ps[i] :: ps.drop (i + 1))) = some m := by rw [← e]; exact h
  rw [run_app, ha] at h2
  have h3 : (if can a ps[i].1 ps[i].2 = true then run (mv a ps[i].1 ps[i].2) (ps.drop (i + 1)) else none) = some m := h2
  have hc : can a ps[i].1 ps[i].2 = true := by
    by_cases c : can a ps[i].1 ps[i].2 = true
    · exact c
    · rw [if_neg c] at h3
      cases h3
  refine ⟨hc, ?_⟩
  rw [List.take_add_one, List.getElem?_eq_getElem hi]
  show run ns (ps.take i ++ [ps[i]]) = _
  rw [run_app, ha]
  show (if can a ps[i].1 ps[i].2 = true then some (mv a ps[i].1 ps[i].2) else none) = _
  rw [if_pos hc]
theorem run_len : ∀ (ps : List (Nat × Nat)) (ns m : List Int), run ns ps = some m → m.length = ns.length
  | [], ns, m, e => by
    have e' : ns = m := Option.some.inj e
    rw [e']
  | p :: ps, ns, m, e => by
    have e' : (if can ns p.1 p.2 = true then run (mv ns p.1 p.2) ps else none) = some m := e
    split at e'
    · rw [run_len ps _ m e', len_mv]
    · cases e'
end Hd
set_option maxHeartbeats 4000000
/-! All pairs of places, in order; data that stands in the heap. -/
namespace Hd
open PySem PySem.Spec PyProof.Rows L2
def row (n i : Nat) : List (Nat × Nat) := ((List.range n).filter fun j => decide (j ≠ i)).map fun j => (i, j)
def rowTo (i j : Nat) : List (Nat × Nat) := ((List.range j).filter fun j => decide (j ≠ i)).map fun j => (i, j)
def prsTo (n i : Nat) : List (Nat × Nat) := (List.range i).flatMap (row n)
def prs (n : Nat) : List (Nat × Nat) := prsTo n n
theorem prsTo_succ (n i : Nat) : prsTo n (i + 1) = prsTo n i ++ row n i := by
  unfold prsTo
  rw [List.range_succ, List.flatMap_append]
  simp
theorem rowTo_succ (i j : Nat) : rowTo i (j + 1) = rowTo i j ++ (if j = i then [] else [(i, j)]) := by
  unfold rowTo
  rw [List.range_succ, List.filter_append, List.map_append]
  by_cases h : j = i
  · subst h
    simp
  · simp [h]
theorem prs_len {n : Nat} (h2 : n ≤ 6) : (prs n).length = n * (n - 1) := by
  have : n = 0 ∨ n = 1 ∨ n = 2 ∨ n = 3 ∨ n = 4 ∨ n = 5 ∨ n = 6 := by omega
  rcases this with e | e | e | e | e | e | e <;> subst e <;> decide
theorem prsTo_short {n : Nat} (h2 : n ≤ 6) : ∀ i, i ≤ n → (prsTo n i).length ≤ 36 := by
  have : n = 0 ∨ n = 1 ∨ n = 2 ∨ n = 3 ∨ n = 4 ∨ n = 5 ∨ n = 6 := by omega
  rcases this with e | e | e | e | e | e | e <;> subst e <;> decide
theorem prs_short {n : Nat} (h2 : n ≤ 6) : (prs n).length ≤ 36 := prsTo_short h2 n (Nat.le_refl n)
theorem mem_row {n i : Nat} {p : Nat × Nat} : p ∈ row n i ↔ p.1 = i ∧ p.2 < n ∧ p.2 ≠ i := by
  unfold row
  rw [List.mem_map]
  constructor
  · rintro ⟨j, hj, rfl⟩
    obtain ⟨h1, h2⟩ := List.mem_filter.mp hj
    exact ⟨rfl, List.mem_range.mp h1, by simpa using h2⟩
  · rintro ⟨rfl, h1, h2⟩
    exact ⟨p.2, List.mem_filter.mpr ⟨List.mem_range.mpr h1, by simpa using h2⟩, rfl⟩
theorem mem_prs {n : Nat} {p : Nat × Nat} : p ∈ prs n ↔ p.1 < n ∧ p.2 < n ∧ p.1 ≠ p.2 := by
  unfold prs prsTo
  rw [List.mem_flatMap]
  constructor
  · rintro ⟨i, hi, hp⟩
    obtain ⟨h1, h2, h3⟩ := mem_row.mp hp
    exact ⟨by rw [h1]; exact List.mem_range.mp hi, h2, by rw [h1]; exact fun z => h3 z.symm⟩
  · rintro ⟨h1, h2, h3⟩
    exact ⟨p.1, List.mem_range.mpr h1, mem_row.mpr ⟨rfl, h2, fun z => h3 z.symm⟩⟩
/-- the steps that can be made, in order -/
def due (ns : List Int) : List (Nat × Nat) := (prs ns.length).filter fun q => can ns q.1 q.2
theorem mem_due {ns : List Int} {p : Nat × Nat} : p ∈ due ns ↔ p.1 < ns.length ∧ p.2 < ns.length ∧ p.1 ≠ p.2 ∧ can ns p.1 p.2 = true := by
  unfold due
  rw [List.mem_filter, mem_prs]
  constructor
  · rintro ⟨⟨a, b, c⟩, d⟩
    exact ⟨a, b, c, d⟩
  · rintro ⟨a, b, c, d⟩
    exact ⟨⟨a, b, c⟩, d⟩
theorem filter_take {α : Type} {p : α → Bool} {l : List α} {i : Nat} {z : α} (h : l[i]? = some z) : (l.take (i + 1)).filter p = (l.take i).filter p ++ (if p z = true then [z] else []) := by
  rw [List.take_add_one, h, List.filter_append]
  congr 1
  simp only [Option.toList, List.filter_cons, List.filter_nil]
theorem map_take {α β : Type} {f : α → β} {l : List α} {i : Nat} {z : α} (h : l[i]? = some z) : (l.take (i + 1)).map f = (l.take i).map f ++ [f z] := by
  rw [List.take_add_one, h, List.map_append]
  rfl
/-! ### data -/
theorem shaped_mk {d : PyData} (h1 : d.canLay0 = true) (h2 : d.depth ≤ 64) : SeqAt.shaped d = true := by
  unfold SeqAt.shaped
  rw [h1, decide_eq_true h2]
  rfl
theorem lay_all {α : Type} (f : α → PyData) (h : ∀ x, (f x).canLay0 = true) : ∀ xs : List α, PyData.canLayAll0 (xs.map f) = true
  | [] => by simp [PyData.canLayAll0]
  | x :: xs => by simp [PyData.canLayAll0, h, lay_all f h xs]
theorem deep_all {α : Type} (f : α → PyData) (n : Nat) (h : ∀ x, (f x).depth ≤ n) : ∀ xs : List α, PyData.depthAll (xs.map f) ≤ n
  | [] => by simp [PyData.depthAll]
  | x :: xs => by
    have h1 := h x
    have h2 := deep_all f n h xs
    simp only [List.map_cons, PyData.depthAll]
    omega
theorem all_self {α : Type} (f : α → PyData) (h : ∀ x, PyData.eqv (f x) (f x) = true) : ∀ xs : List α, PyData.eqvAll (xs.map f) (xs.map f) = true
  | [] => by simp [PyData.eqvAll]
  | x :: xs => by
    simp only [List.map_cons, PyData.eqvAll, h, all_self f h xs, Bool.and_true]
theorem all_eqv {α : Type} (f : α → PyData) (e : α → α → Bool) (h : ∀ x y, PyData.eqv (f x) (f y) = e x y) (he : ∀ x y, e x y = true ↔ x = y) : ∀ xs ys : List α, PyData.eqvAll (xs.map f) (ys.map f) = true ↔ xs = ys
  | [], [] => by simp [PyData.eqvAll]
  | [], y :: ys => by simp [PyData.eqvAll]
  | x :: xs, [] => by simp [PyData.eqvAll]
  | x :: xs, y :: ys => by
    simp only [List.map_cons, PyData.eqvAll, h, Bool.and_eq_true, he, all_eqv f e h he xs ys, List.cons.injEq]
/-- a tuple of ints -/
def dI (ns : List Int) : PyData := .tuple (ns.map .int)
/-- a step -/
def dS (p : Nat × Nat) : PyData := .tuple [.int (p.1 : Int), .int (p.2 : Int)]
/-- a tuple of steps -/
def dP (ps : List (Nat × Nat)) : PyData := .tuple (ps.map dS)
theorem eqv_int (x y : Int) : PyData.eqv (.int x) (.int y) = (x == y) := by simp only [PyData.eqv]
theorem dI_eqv (xs ys : List Int) : PyData.eqv (dI xs) (dI ys) = decide (xs = ys) := by
  have h := all_eqv PyData.int (fun x y => x == y) eqv_int (fun x y => beq_iff_eq) xs ys
  unfold dI
  simp only [PyData.eqv]
  by_cases e : xs = ys
  · rw [h.mpr e, decide_eq_true e]
  · rw [decide_eq_false e]
    exact Bool.eq_false_iff.mpr fun z => e (h.mp z)
theorem dS_eqv (p q : Nat × Nat) : PyData.eqv (dS p) (dS q) = decide (p = q) := by
  obtain ⟨a, b⟩ := p
  obtain ⟨c, d⟩ := q
  have e : PyData.eqv (dS (a, b)) (dS (c, d)) = (decide (a = c) && decide (b = d)) := by
    simp only [dS, PyData.eqv, PyData.eqvAll]
    by_cases h1 : a = c <;> by_cases h2 : b = d <;> simp [h1, h2] <;> omega
  rw [e]
  by_cases h1 : a = c <;> by_cases h2 : b = d <;> simp [h1, h2]
theorem steps_eqv (xs ys : List (Nat × Nat)) : PyData.eqvAll (xs.map dS) (ys.map dS) = decide (xs = ys) := by
  have h := all_eqv dS (fun x y => decide (x = y)) dS_eqv (fun x y => by simp) xs ys
  by_cases e : xs = ys
  · rw [h.mpr e, decide_eq_true e]
  · rw [decide_eq_false e]
    exact Bool.eq_false_iff.mpr fun z => e (h.mp z)
theorem dP_eqv (xs ys : List (Nat × Nat)) : PyData.eqv (dP xs) (dP ys) = decide (xs = ys) := by
  unfold dP
  simp only [PyData.eqv]
  exact steps_eqv xs ys
theorem dI_lay (ns : List Int) : (dI ns).canLay0 = true := by
  have := lay_all PyData.int (fun x => by simp [PyData.canLay0]) ns
  simp [dI, PyData.canLay0, this]
theorem dI_deep (ns : List Int) : (dI ns).depth ≤ 1 := by
  have := deep_all PyData.int 0 (fun x => by simp [PyData.depth]) ns
  simp [dI, PyData.depth]
  omega
theorem dS_lay (p : Nat × Nat) : (dS p).canLay0 = true := by simp [dS, PyData.canLay0, PyData.canLayAll0]
theorem dS_deep (p : Nat × Nat) : (dS p).depth ≤ 1 := by simp [dS, PyData.depth, PyData.depthAll]
theorem dP_lay (ps : List (Nat × Nat)) : (dP ps).canLay0 = true := by
  have := lay_all dS dS_lay ps
  simp [dP, PyData.canLay0, this]
theorem dP_deep (ps : List (Nat × Nat)) : (dP ps).depth ≤ 2 := by
  have := deep_all dS 1 dS_deep ps
  simp [dP, PyData.depth]
  omega
theorem dI_ok (ns : List Int) : SeqAt.shaped (dI ns) = true := shaped_mk (dI_lay ns) (Nat.le_trans (dI_deep ns) (by decide))
theorem dS_ok (p : Nat × Nat) : SeqAt.shaped (dS p) = true := shaped_mk (dS_lay p) (Nat.le_trans (dS_deep p) (by decide))
theorem dP_ok (ps : List (Nat × Nat)) : SeqAt.shaped (dP ps) = true := shaped_mk (dP_lay ps) (Nat.le_trans (dP_deep ps) (by decide))
theorem dpall_ints {K : PySem.W.Frag} {H : Hp} : ∀ ns : List Int, DpAll K H (ns.map V.int) (ns.map PyData.int)
  | [] => .nil
  | n :: ns => .cons (.int n) (dpall_ints ns)
theorem dp_I {K : PySem.W.Frag} {H : Hp} {a : Addr} {ns : List Int} (h : SqT K H a (ns.map V.int)) : Dp K H (.ref a) (dI ns) := .tup h (dpall_ints ns)
theorem dp_S {K : PySem.W.Frag} {H : Hp} {a : Addr} {i j : Nat} (h : SqT K H a [.int (i : Int), .int (j : Int)]) : Dp K H (.ref a) (dS (i, j)) := .tup h (.cons (.int _) (.cons (.int _) .nil))
mutual
theorem dp_same {K : PySem.W.Frag} {H H' : Hp} (s : Same H H') : ∀ {v : V} {d : PyData}, Dp K H v d → Dp K H' v d
  | _, _, .non => .non
  | _, _, .bl b => .bl b
  | _, _, .int i => .int i
  | _, _, .str x => .str x
  | _, _, .lst h a => .lst (s.seq h) (dpall_same s a)
  | _, _, .tup h a => .tup (Same.tup s h) (dpall_same s a)
theorem dpall_same {K : PySem.W.Frag} {H H' : Hp} (s : Same H H') : ∀ {vs : List V} {ds : List PyData}, DpAll K H vs ds → DpAll K H' vs ds
  | _, _, .nil => .nil
  | _, _, .cons h t => .cons (dp_same s h) (dpall_same s t)
end
theorem dpall_get {K : PySem.W.Frag} {H : Hp} : ∀ {vs : List V} {ds : List PyData} {i : Nat} {v : V}, DpAll K H vs ds → vs[i]? = some v → ∃ d, ds[i]? = some d ∧ Dp K H v d
  | _, _, _, _, .nil, e => by simp at e
  | _, _, 0, _, .cons h t, e => by
    simp at e
    subst e
    exact ⟨_, rfl, h⟩
  | _, _, i + 1, _, .cons h t, e => by
    obtain ⟨d, e1, e2⟩ := dpall_get (i := i) t (by simpa using e)
    exact ⟨d, by simpa using e1, e2⟩
theorem dpall_len {K : PySem.W.Frag} {H : Hp} : ∀ {vs : List V} {ds : List PyData}, DpAll K H vs ds → vs.length = ds.length
  | _, _, .nil => rfl
  | _, _, .cons h t => by rw [List.length_cons, List.length_cons, dpall_len t]
end Hd
set_option maxHeartbeats 4000000
namespace Hd
open PySem PySem.Spec PyProof.Rows L2
def top (i : Nat) : Stmt := PySem.Challenge.pw_heapsdouble_k10_errors_apart.main.body.getD i (.Pass ⟨0, 0, 0, 0⟩)
/-! ### the draws -/
structure Tx (K : PySem.W.Frag) (mg : Str → Option Value) : Prop where
  int : mg "int" = none
  list : mg "list" = none
  max : mg "max" = none
  len : mg "len" = none
  tuple : mg "tuple" = none
  range : mg "range" = none
/-- the source of draws at h: [state, cells, index], the cells at c -/
structure DrawAt (H : Hp) (h c : Addr) : Prop where
  ex : ∃ (st ix : Int) (cells : List Int), H h = some (.lst [.int st, .ref c, .int ix]) ∧ H c = some (.lst (cells.map V.int)) ∧ cells.length ≤ 63
  ne : h ≠ c
/-- all but the source stands as it stood -/
def Kept (h c : Addr) (H H' : Hp) : Prop := ∀ a o, H a = some o → a ≠ h → a ≠ c → H' a = some o
theorem Kept.refl {h c : Addr} {H : Hp} : Kept h c H H := fun _ _ e _ _ => e
theorem Kept.of {h c : Addr} {H H' : Hp} (e : Same H H') : Kept h c H H' := fun a o q _ _ => e a o q
theorem Kept.trans {h c : Addr} {H H1 H2 : Hp} (a : Kept h c H H1) (b : Kept h c H1 H2) : Kept h c H H2 := fun x o e n m => b x o (a x o e n m) n m
theorem Kept.new {h c : Addr} {H H1 : Hp} {p : Addr} {o : HO} (a : Kept h c H H1) (hp : H p = none) : Kept h c H (upd H1 p o) := fun x u e n m => by
  rw [upd_ne (ne_of_none e hp)]
  exact a x u e n m
theorem Kept.at_h {h c : Addr} {H H1 : Hp} {o : HO} (a : Kept h c H H1) : Kept h c H (upd H1 h o) := fun x u e n m => by
  rw [upd_ne n]
  exact a x u e n m
theorem Kept.at_c {h c : Addr} {H H1 : Hp} {o : HO} (a : Kept h c H H1) : Kept h c H (upd H1 c o) := fun x u e n m => by
  rw [upd_ne m]
  exact a x u e n m
theorem DrawAt.new {H : Hp} {h c p : Addr} {o : HO} (d : DrawAt H h c) (hp : H p = none) : DrawAt (upd H p o) h c := by
  obtain ⟨⟨st, ix, cells, h1, h2, h3⟩, ne⟩ := d
  exact ⟨⟨st, ix, cells, by rw [upd_ne (ne_of_none h1 hp)]; exact h1, by rw [upd_ne (ne_of_none h2 hp)]; exact h2, h3⟩, ne⟩
theorem DrawAt.upd {H : Hp} {h c p : Addr} {o : HO} (d : DrawAt H h c) (hh : p ≠ h) (hc : p ≠ c) : DrawAt (upd H p o) h c := by
  obtain ⟨⟨st, ix, cells, h1, h2, h3⟩, ne⟩ := d
  exact ⟨⟨st, ix, cells, by rw [upd_ne (Ne.symm hh)]; exact h1, by rw [upd_ne (Ne.symm hc)]; exact h2, h3⟩, ne⟩
theorem DrawAt.same {H H' : Hp} {h c : Addr} (d : DrawAt H h c) (e : Same H H') : DrawAt H' h c := by
  obtain ⟨⟨st, ix, cells, h1, h2, h3⟩, ne⟩ := d
  exact ⟨⟨st, ix, cells, e _ _ h1, e _ _ h2, h3⟩, ne⟩
theorem DrawAt.nots {H : Hp} {h c p : Addr} (d : DrawAt H h c) (hp : H p = none) : p ≠ h ∧ p ≠ c := by
  obtain ⟨⟨st, ix, cells, h1, h2, h3⟩, ne⟩ := d
  exact ⟨(ne_of_none h1 hp).symm, (ne_of_none h2 hp).symm⟩
theorem Kept.free {h c p : Addr} {H H' : Hp} (k : Kept h c H H') (d : DrawAt H' h c) (hp : H' p = none) : H p = none := by
  obtain ⟨n1, n2⟩ := d.nots hp
  cases e : H p with
  | none => rfl
  | some o =>
    rw [k p o e n1 n2] at hp
    cases hp
theorem Kept.tup {K : PySem.W.Frag} {h c a : Addr} {H H' : Hp} {xs : List V} (k : Kept h c H H') (d : DrawAt H h c) (q : SqT K H a xs) : SqT K H' a xs := by
  obtain ⟨⟨st, ix, cells, h1, h2, h3⟩, ne⟩ := d
  rcases q with (q | ⟨o, q⟩) | q
  · exact .inl (.inl (k _ _ q (ne_of q h1 (by intro z; cases z)) (ne_of q h2 (by intro z; cases z))))
  · exact .inl (.inr ⟨o, k _ _ q (ne_of q h1 (by intro z; cases z)) (ne_of q h2 (by intro z; cases z))⟩)
  · exact .inr q
def spMix (K : PySem.W.Frag) : Sp := fun vs H Q _ => ∃ (a : Addr) (ns : List Int) (seed : Int), vs = [.ref a, .int seed] ∧ SqL K H a (ns.map V.int) ∧ ns.length ≤ 63 ∧
  ∀ (h c : Addr) (H' : Hp), H h = none → H c = none → Same H H' → DrawAt H' h c → Q (.ref h) H'
def spNext : Sp := fun vs H Q _ => ∃ (h c : Addr) (b : Int), vs = [.ref h, .int b] ∧ DrawAt H h c ∧ 0 < b ∧ b < 2 ^ 200 ∧
  ∀ (n : Int) (H' : Hp), 0 ≤ n → n < b → DrawAt H' h c → Kept h c H H' → Q (.int n) H'
/-- the place of the drawn cell -/
theorem draw_ix (cells : List Int) (ix : Int) : ∃ (j : Nat) (z : Int), ix % (if (cells.length : Int) > 1 then (cells.length : Int) else 1) = (j : Int) ∧ (cells.map V.int ++ [V.int 0])[j]? = some (.int z) ∧ (cells = [] → z = 0) ∧ (cells ≠ [] → j < cells.length ∧ (if (cells.length : Int) > 1 then (cells.length : Int) else 1) = (cells.length : Int)) := by
  have hm : 0 < (if (cells.length : Int) > 1 then (cells.length : Int) else 1) := by split <;> omega
  have h0 := Int.emod_nonneg ix (Int.ne_of_gt hm)
  have h1 := Int.emod_lt_of_pos ix hm
  obtain ⟨j, hj⟩ := Int.eq_ofNat_of_zero_le h0
  rw [hj] at h1
  cases cells with
  | nil =>
    refine ⟨j, 0, hj, ?_, fun _ => rfl, fun h => absurd rfl h⟩
    simp at h1
    have : j = 0 := by omega
    subst this
    rfl
  | cons x r =>
    have hm2 : (if (((x :: r).length : Nat) : Int) > 1 then (((x :: r).length : Nat) : Int) else 1) = (((x :: r).length : Nat) : Int) := by
      split
      · rfl
      · have : (((x :: r).length : Nat) : Int) ≥ 1 := by rw [List.length_cons]; omega
        omega
    rw [hm2] at h1
    have hlt : j < (x :: r).length := by omega
    refine ⟨j, (x :: r)[j], hj, ?_, fun h => (nomatch h), fun _ => ⟨hlt, hm2⟩⟩
    rw [List.getElem?_append_left (by rw [List.length_map]; exact hlt), List.getElem?_map, List.getElem?_eq_getElem hlt]
    rfl
theorem int_at {ns : List Int} {i : Nat} {y : V} (hi : (ns.map V.int)[i]? = some y) : ∃ z, ns[i]? = some z ∧ y = V.int z := by
  rw [List.getElem?_map] at hi
  cases e : ns[i]? with
  | none =>
    rw [e] at hi
    cases hi
  | some z =>
    rw [e] at hi
    exact ⟨z, rfl, (Option.some.inj hi).symm⟩
section
variable {P : Program} {w : World} {K : PySem.W.Frag} {mg : Str → Option Value} {base : Heap}
abbrev s_l_mix : Stmt := top 61
theorem sc_l_mix : FnScope ["_law_script", "_law_seed", "_law_state", "_law_cell"] ["_law_script", "_law_seed"] (defScope s_l_mix) := ⟨rfl, rfl, rfl, by decide +kernel, rfl, by decide +kernel, by decide +kernel⟩
theorem ok_mix {f : Addr} {fd : FuncData} (F : Fun K "_law_mix" "_law_mix" s_l_mix f fd) (T : Tx K mg) : FnOk P w K mg base CX0 1 f fd ["_law_script", "_law_seed"] (spMix K) := by
  refine F.ok sc_l_mix (fun vs H Q E h => ?_) (fun cdv A outer s H vs Q E hr h => ?_)
  · obtain ⟨a, ns, seed, rfl, _⟩ := h
    rfl
  · obtain ⟨a, ns, seed, rfl, hS, hlen, k⟩ := h
    refine ⟨_, (pss_cons (ps_set (i := 2) sc_l_mix.nd rfl (Or.inl rfl) (pv 1))
      (pss_cons (ps_for PassesOwn.never rfl (pi_list (pv 0)) (pg_name (i := 3) sc_l_mix.nd rfl (Or.inl rfl))
      (pss_one (ps_set (i := 2) sc_l_mix.nd rfl (Or.inl rfl) (pe_op op_mod (pe_callTy call_int1 (by rfl) T.int (by decide +kernel) (pa_cons (pe_op op_add (pe_op op_add (pe_op op_mul (pv 2) pe_int) (pe_op op_mod (pe_callTy call_int1 (by rfl) T.int (by decide +kernel) (pa_cons (pv 3) pa_nil)) pe_int)) pe_int) pa_nil)) pe_int))))
      (pss_one (ps_ret (pe_lst (pa_cons (pv 2) (pa_cons (pe_callTy call_list_of (by rfl) T.list (by decide +kernel) (pa_cons (pv 0) pa_nil)) (pa_cons pe_int pa_nil)))))))), ?_⟩
    refine ⟨_, rfl, _, rfl, a, rfl, ⟨_, hS⟩, for_list (K := K) (a := a) (xs := ns.map V.int) (fun i σ H2 => ∃ (st : Int) (v : Option V), σ = [some (.ref a), some (.int seed), some (.int st), v] ∧ H2 = H)
      ⟨seed, none, rfl, rfl⟩ (fun i σ H2 _ ⟨_, _, _, e⟩ => by rw [e]; exact hS) ?_ ?_⟩
    · rintro i y σ H2 hi ⟨st, v, rfl, rfl⟩
      obtain ⟨z, _, rfl⟩ := int_at hi
      refine ⟨_, rfl, _, _, rfl, rfl, .inr ⟨by decide, by decide⟩, _, rfl, .inl ⟨_, rfl, _, _, rfl, rfl, (by show (0 : Int) < 2147483629; decide), _, _, rfl, rfl, _, _, rfl, rfl, .inl ⟨_, rfl, _, _, rfl, rfl, (by show (0 : Int) < 2147483647; decide), ?_⟩⟩⟩
      exact ⟨_, _, rfl, rfl⟩
    · rintro σ H2 ⟨st, v, rfl, rfl⟩
      refine ⟨_, rfl, _, rfl, a, _, rfl, .inl hS, fun c hc => ⟨by show 3 ≤ sizeLine; decide, fun h hh => ?_⟩⟩
      have hch : h ≠ c := fun e => by
        rw [e, upd_same] at hh
        cases hh
      have hh0 : H2 h = none := by
        rw [upd_ne hch] at hh
        exact hh
      refine k h c _ hh0 hc (same_upd (same_upd (Same.refl _) hc) hh0) ⟨⟨st, 0, ns, upd_same, by rw [upd_ne hch.symm, upd_same], hlen⟩, hch⟩
abbrev s_l_next : Stmt := top 62
theorem sc_l_next : FnScope ["_law_h", "_law_bound", "_law_cell", "_law_cells"] ["_law_h", "_law_bound"] (defScope s_l_next) := ⟨rfl, rfl, rfl, by decide +kernel, rfl, by decide +kernel, by decide +kernel⟩
theorem ok_next {f : Addr} {fd : FuncData} (F : Fun K "_law_next" "_law_next" s_l_next f fd) (T : Tx K mg) : FnOk P w K mg base CX0 1 f fd ["_law_h", "_law_bound"] spNext := by
  refine F.ok sc_l_next (fun vs H Q E h => ?_) (fun cdv A outer s H vs Q E hr h => ?_)
  · obtain ⟨a, c, b, rfl, _⟩ := h
    rfl
  · obtain ⟨h, c, b, rfl, D, hb, hb2, k⟩ := h
    obtain ⟨⟨st, ix, cells, hh, hc, hl⟩, hne0⟩ := id D
    refine ⟨_, (pss_cons (ps_set (i := 2) sc_l_next.nd rfl (Or.inl rfl) (pe_ix ix_list (pe_op op_cat (pe_ix ix_list (pv 0) pe_int (fun _ _ => rfl)) (pe_lst (pa_cons pe_int pa_nil))) (pe_op op_mod (pe_callTy call_int1 (by rfl) T.int (by decide +kernel) (pa_cons (pe_ix ix_list (pv 0) pe_int (fun _ _ => rfl)) pa_nil)) (pe_callB (call_max2 rfl) (by rfl) T.max (by decide +kernel) (pa_cons pe_int (pa_cons (pe_callB call_len_seq (by rfl) T.len PySem.boot_len (pa_cons (pe_ix ix_list (pv 0) pe_int (fun _ _ => rfl)) pa_nil)) pa_nil)))) (fun _ _ => rfl)))
      (pss_cons (ps_if (pt_cmpR op_ge (pv 2) (pe_op op_pow pe_int pe_int) (nomark _)) (pss_cons (ps_set (i := 3) sc_l_next.nd rfl (Or.inl rfl) (pe_ix ix_list (pv 0) pe_int (fun _ _ => rfl)))
      (pss_cons (ps_asg (pe_op op_fdivW (pv 2) (pv 1)) (pg_sub (pv 3) (pe_op op_mod (pe_callTy call_int1 (by rfl) T.int (by decide +kernel) (pa_cons (pe_ix ix_list (pv 0) pe_int (fun _ _ => rfl)) pa_nil)) (pe_callB call_len_seq (by rfl) T.len PySem.boot_len (pa_cons (pv 3) pa_nil))) set_list))
      (pss_one (ps_ret (pe_op op_mod (pe_callTy call_int1 (by rfl) T.int (by decide +kernel) (pa_cons (pv 2) pa_nil)) (pv 1)))))) pss_nil)
      (pss_cons (ps_asg (pe_op op_mod (pe_callTy call_int1 (by rfl) T.int (by decide +kernel) (pa_cons (pe_op op_add (pe_op op_add (pe_op op_mul (pe_ix ix_list (pv 0) pe_int (fun _ _ => rfl)) pe_int) (pe_op op_mul (pv 2) pe_int)) pe_int) pa_nil)) pe_int) (pg_sub (pv 0) pe_int set_list))
      (pss_cons (ps_asg (pe_op op_add (pe_ix ix_list (pv 0) pe_int (fun _ _ => rfl)) pe_int) (pg_sub (pv 0) pe_int set_list))
      (pss_one (ps_ret (pe_op op_mod (pe_callTy call_int1 (by rfl) T.int (by decide +kernel) (pa_cons (pe_op op_fdiv (pe_ix ix_list (pv 0) pe_int (fun _ _ => rfl)) pe_int) pa_nil)) (pv 1)))))))), ?_⟩
    obtain ⟨j, z, ej, ez, e0, e1⟩ := draw_ix cells ix
    -- _law_cell
    refine ⟨_, rfl, h, _, _, _, rfl, rfl, SqL.of hh, rfl, by show 1 ≤ sizeLine; decide, fun p hp => ?_⟩
    have nph : h ≠ p := ne_of_none hh hp
    have npc : c ≠ p := ne_of_none hc hp
    refine ⟨c, p, _, _, rfl, rfl, by rw [upd_ne npc]; exact hc, upd_same, ?_, fun q hq => ?_⟩
    · rw [List.length_map, sizeLine_eq]
      show cells.length + 1 ≤ _
      omega
    have nqp : p ≠ q := ne_of_none upd_same hq
    have hq' : H q = none := by
      rw [upd_ne nqp.symm] at hq
      exact hq
    have nqh : h ≠ q := ne_of_none hh hq'
    have nqc : c ≠ q := ne_of_none hc hq'
    have hh2 : (upd (upd H p (.lst [.int 0])) q (.lst (cells.map V.int ++ [.int 0]))) h = some (.lst [.int st, .ref c, .int ix]) := by rw [upd_ne nqh, upd_ne nph]; exact hh
    have hc2 : (upd (upd H p (.lst [.int 0])) q (.lst (cells.map V.int ++ [.int 0]))) c = some (.lst (cells.map V.int)) := by rw [upd_ne nqc, upd_ne npc]; exact hc
    have hq2 : (upd (upd H p (.lst [.int 0])) q (.lst (cells.map V.int ++ [.int 0]))) q = some (.lst (cells.map V.int ++ [.int 0])) := upd_same
    have kk : Kept h c H (upd (upd H p (.lst [.int 0])) q (.lst (cells.map V.int ++ [.int 0]))) := (Kept.refl.new hp).new hq'
    generalize upd (upd H p (.lst [.int 0])) q (.lst (cells.map V.int ++ [.int 0])) = H2 at hh2 hc2 hq2 kk ⊢
    refine ⟨_, rfl, h, _, _, _, rfl, rfl, SqL.of hh2, rfl, .inl ⟨_, rfl, _, rfl, h, _, _, _, rfl, rfl, SqL.of hh2, rfl, c, _, rfl, .inl (SqL.of hc2), _, _, rfl, ?_⟩⟩
    rw [List.length_map]
    refine ⟨_, _, rfl, rfl, (by split <;> omega), q, _, _, _, rfl, rfl, SqL.of hq2, at_of ej ez, ?_⟩
    -- if _law_cell >= 10 ** 18
    refine ⟨_, rfl, _, _, rfl, rfl, ⟨by decide, by decide, by decide⟩, _, _, rfl, rfl, _, rfl, ?_⟩
    refine ite2 (fun hge => ?_) (fun _ => ?_)
    · have hz : (10 : Int) ^ 18 ≤ z := of_decide_eq_true hge
      have hz0 : z ≠ 0 := by omega
      have hne : cells ≠ [] := fun e => hz0 (e0 e)
      obtain ⟨hj, em⟩ := e1 hne
      rw [em] at ej
      refine ⟨_, rfl, h, _, _, _, rfl, rfl, SqL.of hh2, rfl, _, rfl, _, rfl, _, _, rfl, rfl, wide_div hb (b := 200) ?_ (by decide) (by decide), ?_⟩
      · omega
      refine ⟨_, rfl, _, rfl, h, _, _, _, rfl, rfl, SqL.of hh2, rfl, .inl ⟨_, rfl, _, rfl, c, _, rfl, .inl (SqL.of hc2), _, _, rfl, rfl, ?_, ?_⟩⟩
      · rw [List.length_map]
        omega
      refine ⟨c, _, _, j, rfl, rfl, hc2, ?_, ?_⟩
      · rw [List.length_map, ej]
        unfold ixN
        rw [if_pos (by omega), if_pos (by omega)]
        simp
      refine ⟨_, rfl, .inl ⟨_, rfl, _, rfl, _, _, rfl, rfl, hb, ?_⟩⟩
      refine k _ _ (Int.emod_nonneg _ (by omega)) (Int.emod_lt_of_pos _ hb) ⟨⟨st, ix, cells.set j (z / b), ?_, ?_, by rw [List.length_set]; exact hl⟩, hne0⟩ kk.at_c
      · rw [upd_ne hne0]
        exact hh2
      · rw [upd_same, List.map_set]
    · -- _law_h[0] = ..
      refine ⟨_, rfl, h, _, _, _, rfl, rfl, SqL.of hh2, rfl, _, _, rfl, rfl, .inr ⟨by decide, by decide⟩, _, rfl, _, _, rfl, rfl, .inr ⟨by decide, by decide⟩, _, _, rfl, rfl, _, _, rfl, rfl, .inl ⟨_, rfl, _, _, rfl, rfl, (by show (0 : Int) < 2147483647; decide), ?_⟩⟩
      refine ⟨_, rfl, h, _, _, 0, rfl, rfl, hh2, rfl, ?_⟩
      -- _law_h[2] = _law_h[2] + 1
      refine ⟨_, rfl, h, _, _, _, rfl, rfl, SqL.of upd_same, rfl, _, _, rfl, rfl, _, rfl, h, _, _, 2, rfl, rfl, upd_same, rfl, ?_⟩
      refine ⟨_, rfl, h, _, _, _, rfl, rfl, SqL.of upd_same, rfl, _, _, rfl, rfl, ⟨by decide, by decide⟩, .inl ⟨_, rfl, _, rfl, _, _, rfl, rfl, hb, ?_⟩⟩
      refine k _ _ (Int.emod_nonneg _ (by omega)) (Int.emod_lt_of_pos _ hb) ⟨⟨_, _, cells, upd_same, ?_, hl⟩, hne0⟩ kk.at_h.at_h
      rw [upd_ne hne0.symm, upd_ne hne0.symm]
      exact hc2
end
end Hd
set_option maxHeartbeats 4000000
/-! Looks at values of any kind. -/
namespace Hd
open PySem PySem.Spec PyProof.Rows L2
theorem pe_gint {X : Cx} {x : Str} {v : Int} {pos : Pos} (hg : Gl X x) (hm : ∃ t, X.mg x = some (.int v t)) (hd : (x == ("__debug__" : Str)) = false := by decide) : PE X (.Name x pos) (tC (.int v)) := by
  obtain ⟨t, hm⟩ := hm
  exact pe_glob hg hm ⟨t, rfl⟩ hd
theorem tyx_tup {K : PySem.W.Frag} {H : Hp} {a : Addr} {xs : List V} (h : SqT K H a xs) : TyX K H (.ref a) (.type "tuple") := by
  rcases h with (h | ⟨o, h⟩) | ⟨o, its, n, hk, hc, _⟩
  · exact .base (.tup h)
  · exact .fTuple h
  · exact .kTuple hk hc
theorem tyx_lst {K : PySem.W.Frag} {H : Hp} {a : Addr} {xs : List V} (h : SqL K H a xs) : TyX K H (.ref a) (.type "list") := by
  rcases h with (h | ⟨o, h⟩) | ⟨o, its, n, hk, hc, _⟩
  · exact .base (.lst h)
  · exact .base (.frz h)
  · exact .kList hk hc
/-- the built-in names, none of them stored by the program -/
structure Tz (mg : Str → Option Value) : Prop where
  int : mg "int" = none
  bool : mg "bool" = none
  list : mg "list" = none
  len : mg "len" = none
  tuple : mg "tuple" = none
  isinstance : mg "isinstance" = none
  all : mg "all" = none
  any : mg "any" = none
  sum : mg "sum" = none
  enumerate : mg "enumerate" = none
  range : mg "range" = none
  sorted : mg "sorted" = none
  set : mg "set" = none
  max : mg "max" = none
  min : mg "min" = none
  str : mg "str" = none
structure Tp (mg : Str → Option Value) : Prop extends Tz mg where
  c_FEWEST_HEAPS : ∃ t, mg "FEWEST_HEAPS" = some (.int 2 t)
  c_MOST_HEAPS : ∃ t, mg "MOST_HEAPS" = some (.int 6 t)
  c_GREATEST : ∃ t, mg "GREATEST" = some (.int (10 ^ 30) t)
/-! ### the mirror -/
def inR (l g v : Int) : Bool := decide (l ≤ v) && decide (v ≤ g)
def isIntD (l g : Int) : PyData → Bool
  | .int i => inR l g i
  | _ => false
def intD : PyData → Int
  | .int i => i
  | _ => 0
def hpsB (ns : List Int) : Bool := (decide (2 ≤ ns.length) && decide (ns.length ≤ 6)) && ((ns.map (inR 0 (10 ^ 30))).all id && decide (0 < ns.sum))
/-- a value that is heaps -/
def hpsD : PyData → Bool
  | .tuple ds => (decide (2 ≤ ds.length) && decide (ds.length ≤ 6)) && ((ds.map (isIntD 0 (10 ^ 30))).all id && decide (0 < (ds.map intD).sum))
  | _ => false
theorem hpsD_dI (ns : List Int) : hpsD (dI ns) = hpsB ns := by
  show ((decide (2 ≤ (ns.map PyData.int).length) && decide ((ns.map PyData.int).length ≤ 6)) && (((ns.map PyData.int).map (isIntD 0 (10 ^ 30))).all id && decide (0 < ((ns.map PyData.int).map intD).sum))) = _
  unfold hpsB
  rw [List.length_map, List.map_map, List.map_map]
  congr 2
  have : (intD ∘ PyData.int) = id := by
    funext x
    rfl
  rw [this, List.map_id]
/-- a value that is a pair of two different places below n -/
def prD (n : Int) : PyData → Bool
  | .tuple [a, b] => isIntD 0 (n - 1) a && (isIntD 0 (n - 1) b && !decide (intD a = intD b))
  | _ => false
/-- a value that is a step that can be made -/
def stD (ns : List Int) : PyData → Bool
  | .tuple [a, b] => prD ns.length (.tuple [a, b]) && can ns (intD a).toNat (intD b).toNat
  | _ => false
theorem isInt_eq {l g : Int} {d : PyData} (h : isIntD l g d = true) : ∃ i, d = .int i ∧ l ≤ i ∧ i ≤ g := by
  cases d <;> first | cases h | skip
  rename_i i
  unfold isIntD inR at h
  simp only [Bool.and_eq_true, decide_eq_true_eq] at h
  exact ⟨i, rfl, h.1, h.2⟩
theorem prD_eq {n : Nat} {d : PyData} (h : prD n d = true) : ∃ i j : Nat, d = dS (i, j) ∧ i < n ∧ j < n ∧ i ≠ j := by
  unfold prD at h
  split at h
  · simp only [Bool.and_eq_true, Bool.not_eq_true', decide_eq_false_iff_not] at h
    obtain ⟨h1, h2, h3⟩ := h
    obtain ⟨a, rfl, a1, a2⟩ := isInt_eq h1
    obtain ⟨b, rfl, b1, b2⟩ := isInt_eq h2
    have z : ¬ a = b := h3
    refine ⟨a.toNat, b.toNat, ?_, by omega, by omega, by omega⟩
    unfold dS
    simp only
    rw [Int.toNat_of_nonneg a1, Int.toNat_of_nonneg b1]
  · cases h
theorem prD_dS {n i j : Nat} : prD n (dS (i, j)) = (decide (i < n) && (decide (j < n) && decide (i ≠ j))) := by
  unfold dS prD isIntD inR intD
  simp only
  by_cases h1 : i < n <;> by_cases h2 : j < n <;> by_cases h3 : i = j <;> simp [h1, h2, h3] <;> omega
theorem stD_dS {ns : List Int} {i j : Nat} : stD ns (dS (i, j)) = ((decide (i < ns.length) && (decide (j < ns.length) && decide (i ≠ j))) && can ns i j) := by
  show (prD ns.length (dS (i, j)) && can ns ((i : Int)).toNat ((j : Int)).toNat) = _
  rw [prD_dS]
  simp only [Int.toNat_natCast]
theorem stD_pr {ns : List Int} {d : PyData} (h : stD ns d = true) : ∃ i j : Nat, d = dS (i, j) ∧ i < ns.length ∧ j < ns.length ∧ i ≠ j ∧ can ns i j = true := by
  unfold stD at h
  split at h
  · rename_i a b
    rw [Bool.and_eq_true] at h
    obtain ⟨i, j, e, h1, h2, h3⟩ := prD_eq h.1
    refine ⟨i, j, e, h1, h2, h3, ?_⟩
    have hc := h.2
    unfold dS at e
    simp only [PyData.tuple.injEq, List.cons.injEq, and_true] at e
    obtain ⟨rfl, rfl⟩ := e
    exact hc
  · cases h
theorem stD_nopr {ns : List Int} {d : PyData} (h : prD ns.length d = false) : stD ns d = false := by
  unfold stD
  split
  · rw [h, Bool.false_and]
  · rfl
theorem getD_at {ns : List Int} {i : Nat} (h : i < ns.length) : (ns.map V.int)[i]? = some (.int (ns.getD i 0)) := by
  rw [List.getElem?_map, List.getElem?_eq_getElem h]
  show some (V.int ns[i]) = _
  congr 2
  rw [List.getD_eq_getElem?_getD, List.getElem?_eq_getElem h]
  rfl
theorem ixN_nat {n i : Nat} (h : i < n) : ixN n (i : Int) = some i := by
  unfold ixN
  rw [if_pos (by omega), if_pos (by omega)]
  simp
theorem hps_len {ns : List Int} (h : hpsB ns = true) : 2 ≤ ns.length ∧ ns.length ≤ 6 := by
  unfold hpsB at h
  simp only [Bool.and_eq_true, decide_eq_true_eq] at h
  exact h.1
/-- all ints: what stands there -/
theorem dpall_isint {K : PySem.W.Frag} {H : Hp} {l g : Int} : ∀ {vs : List V} {ds : List PyData}, DpAll K H vs ds → (ds.map (isIntD l g)).all id = true → vs = (ds.map intD).map V.int ∧ ds = (ds.map intD).map PyData.int
  | _, _, .nil, _ => ⟨rfl, rfl⟩
  | _, _, .cons h t, e => by
    rw [List.map_cons, List.all_cons, Bool.and_eq_true] at e
    obtain ⟨i, rfl, _, _⟩ := isInt_eq e.1
    cases h
    obtain ⟨e1, e2⟩ := dpall_isint t e.2
    exact ⟨by rw [List.map_cons, List.map_cons, ← e1]; rfl, by rw [List.map_cons, List.map_cons, ← e2]; rfl⟩
theorem hpsD_eq {d : PyData} (h : hpsD d = true) : ∃ ns, d = dI ns ∧ hpsB ns = true := by
  unfold hpsD at h
  split at h
  · rename_i ds
    have h0 := h
    simp only [Bool.and_eq_true] at h
    have e : ∀ (xs : List PyData), (xs.map (isIntD 0 (10 ^ 30))).all id = true → xs = (xs.map intD).map PyData.int := by
      intro xs
      induction xs with
      | nil => exact fun _ => rfl
      | cons x xs ih =>
        intro q
        rw [List.map_cons, List.all_cons, Bool.and_eq_true] at q
        obtain ⟨i, rfl, _, _⟩ := isInt_eq q.1
        have := ih q.2
        rw [List.map_cons, List.map_cons, ← this]
        rfl
    refine ⟨ds.map intD, ?_, ?_⟩
    · unfold dI
      rw [← e ds h.2.1]
    · rw [← hpsD_dI]
      unfold dI
      rw [← e ds h.2.1]
      exact h0
  · cases h
/-! ### the promises -/
def spIsInt (K : PySem.W.Frag) : Sp := fun vs H Q _ => ∃ (v : V) (d : PyData) (l g : Int), vs = [v, .int l, .int g] ∧ Dp K H v d ∧ Q (.bl (isIntD l g d)) H
def spIsHeaps (K : PySem.W.Frag) : Sp := fun vs H Q _ => ∃ (v : V) (d : PyData), vs = [v] ∧ Dp K H v d ∧ ∀ H', Same H H' → Q (.bl (hpsD d)) H'
def spChkHeapsD (K : PySem.W.Frag) (C : Addr) : Sp := fun vs H Q E => ∃ (v : V) (d : PyData), vs = [v] ∧ Dp K H v d ∧ (hpsD d = true → ∀ H', Same H H' → Q .non H') ∧ (hpsD d = false → ∀ H', Same H H' → E (.ref C) none H')
def spChkHeaps (K : PySem.W.Frag) : Sp := fun vs H Q _ => ∃ (t : Addr) (ns : List Int), vs = [.ref t] ∧ SqT K H t (ns.map V.int) ∧ hpsB ns = true ∧ ∀ H', Same H H' → Q .non H'
theorem chk_good {K : PySem.W.Frag} {C : Addr} {vs : List V} {H : Hp} {Q : VK} {E : XK} (h : spChkHeaps K vs H Q E) : spChkHeapsD K C vs H Q E0 := by
  obtain ⟨t, ns, rfl, hS, hg, k⟩ := h
  exact ⟨_, _, rfl, dp_I hS, fun _ => k, fun z => by rw [hpsD_dI, hg] at z; cases z⟩
section
variable {P : Program} {w : World} {K : PySem.W.Frag} {mg : Str → Option Value} {base : Heap}
abbrev s_is_integer : Stmt := top 22
theorem sc_is_integer : FnScope ["value", "least", "greatest"] ["value", "least", "greatest"] (defScope s_is_integer) := ⟨rfl, rfl, rfl, by decide +kernel, rfl, by decide +kernel, by decide +kernel⟩
theorem ok_is_integer {f : Addr} {fd : FuncData} (F : Fun K "is_integer" "is_integer" s_is_integer f fd) (T : Tp mg) : FnOk P w K mg base CX0 1 f fd ["value", "least", "greatest"] (spIsInt K) := by
  refine F.ok sc_is_integer (fun vs H Q E h => ?_) (fun cdv A outer s H vs Q E hr h => ?_)
  · obtain ⟨v, d, l, g, rfl, _⟩ := h
    rfl
  · obtain ⟨v, d, l, g, rfl, hd, k⟩ := h
    refine ⟨_, (pss_cons (ps_if (PW.pt (pw_or (pt_val (pe_callB call_isi (by rfl) T.isinstance (by decide +kernel) (pa_cons (pv 0) (pa_cons (pe_bltn (v := .ty "bool") (u := .type "bool") (by rfl) T.bool (by decide +kernel) rfl) pa_nil)))) (pw_or1 (pt_not (pt_val (pe_callB call_isi (by rfl) T.isinstance (by decide +kernel) (pa_cons (pv 0) (pa_cons (pe_bltn (v := .ty "int") (u := .type "int") (by rfl) T.int (by decide +kernel) rfl) pa_nil)))))))) (pss_one (ps_ret pe_bl)) pss_nil)
      (pss_one (ps_ret (pe_chain op_le op_le (pv 1) (pv 0) (pv 2))))), ?_⟩
    cases hd with
    | int v =>
      refine ⟨_, rfl, _, _, _, _, false, rfl, ClsV.ty _, .base (.int _), kit_ty (by decide +kernel), _, rfl, ?_⟩
      refine iteF ⟨_, rfl, _, _, _, _, true, rfl, ClsV.ty _, .base (.int _), kit_ty (by decide +kernel), _, rfl, ?_⟩
      refine iteF ?_
      refine ⟨_, rfl, _, rfl, _, _, rfl, rfl, _, rfl, ?_⟩
      unfold isIntD inR at k
      simp only at k
      cases hd : decide (l ≤ v) with
      | false =>
        rw [hd] at k
        exact iteF k
      | true =>
        rw [hd] at k
        exact iteT ⟨_, rfl, _, _, rfl, rfl, k⟩
    | bl b =>
      refine ⟨_, rfl, _, _, _, _, true, rfl, ClsV.ty _, .base (.bl _), kit_ty (by decide +kernel), _, rfl, ?_⟩
      exact iteT k
    | non =>
      refine ⟨_, rfl, _, _, _, _, false, rfl, ClsV.ty _, .base .non, kit_ty (by decide +kernel), _, rfl, ?_⟩
      refine iteF ⟨_, rfl, _, _, _, _, false, rfl, ClsV.ty _, .base .non, kit_ty (by decide +kernel), _, rfl, ?_⟩
      exact iteT k
    | str x =>
      refine ⟨_, rfl, _, _, _, _, false, rfl, ClsV.ty _, .base (.str _), kit_ty (by decide +kernel), _, rfl, ?_⟩
      refine iteF ⟨_, rfl, _, _, _, _, false, rfl, ClsV.ty _, .base (.str _), kit_ty (by decide +kernel), _, rfl, ?_⟩
      exact iteT k
    | lst hS _ =>
      refine ⟨_, rfl, _, _, _, _, false, rfl, ClsV.ty _, tyx_lst hS, kit_ty (by decide +kernel), _, rfl, ?_⟩
      refine iteF ⟨_, rfl, _, _, _, _, false, rfl, ClsV.ty _, tyx_lst hS, kit_ty (by decide +kernel), _, rfl, ?_⟩
      exact iteT k
    | tup hS _ =>
      refine ⟨_, rfl, _, _, _, _, false, rfl, ClsV.ty _, tyx_tup hS, kit_ty (by decide +kernel), _, rfl, ?_⟩
      refine iteF ⟨_, rfl, _, _, _, _, false, rfl, ClsV.ty _, tyx_tup hS, kit_ty (by decide +kernel), _, rfl, ?_⟩
      exact iteT k
abbrev s_is_heaps : Stmt := top 23
theorem sc_is_heaps : FnScope ["value", "heap"] ["value"] (defScope s_is_heaps) := ⟨rfl, rfl, rfl, by decide +kernel, rfl, by decide +kernel, by decide +kernel⟩
theorem ok_is_heaps {f : Addr} {fd : FuncData} (F : Fun K "is_heaps" "is_heaps" s_is_heaps f fd) (T : Tp mg) (C_is_integer : Cal P w K mg base CX0 1 "is_integer" ["value", "least", "greatest"] (spIsInt K)) : FnOk P w K mg base CX0 2 f fd ["value"] (spIsHeaps K) := by
  refine F.ok sc_is_heaps (fun vs H Q E h => ?_) (fun cdv A outer s H vs Q E hr h => ?_)
  · obtain ⟨v, d, rfl, _⟩ := h
    rfl
  · obtain ⟨v, d, rfl, hd, k⟩ := h
    refine ⟨_, (pss_cons (ps_if (PW.pt (pw_or (pt_not (pt_val (pe_callB call_isi (by rfl) T.isinstance (by decide +kernel) (pa_cons (pv 0) (pa_cons (pe_bltn (v := .ty "tuple") (u := .type "tuple") (by rfl) T.tuple (by decide +kernel) rfl) pa_nil))))) (pw_or1 (pt_not (pt_chain op_le op_le (pe_gint rfl T.c_FEWEST_HEAPS) (pe_callB call_len_seq (by rfl) T.len PySem.boot_len (pa_cons (pv 0) pa_nil)) (pe_gint rfl T.c_MOST_HEAPS)))))) (pss_one (ps_ret pe_bl)) pss_nil)
      (pss_one (ps_ret (pe_and (pe_callB (cr_all rfl) (by rfl) T.all (by decide +kernel) (pa_cons (pe_lc (own := [("heap", 1)]) (g := gName 1) (by rfl) sc_is_heaps.nd (pi_tup (pv 0)) (blkOk_by (own := [("heap", 1)]) (N := ["value", "heap"]) (sc := defScope s_is_heaps) (by decide +kernel)) (fun _ _ _ _ _ => pg_name (i := 1) sc_is_heaps.nd rfl (Or.inl rfl)) (fun _ _ _ _ _ => pts_nil) (fun _ _ _ _ _ => (pe_cal C_is_integer hr rfl pass0 (pa_cons (pv 1) (pa_cons pe_int (pa_cons (pe_gint rfl T.c_GREATEST) pa_nil)))))) pa_nil)) (pe_one (pe_cmpR op_gt (pe_callB (cr_sumT rfl) (by rfl) T.sum (by decide +kernel) (pa_cons (pv 0) pa_nil)) pe_int (nomark _))))))), ?_⟩
    cases hd with
    | int v => exact ⟨_, rfl, _, _, _, _, false, rfl, ClsV.ty _, .base (.int _), kit_ty (by decide +kernel), _, rfl, iteT (k H (Same.refl _))⟩
    | bl b => exact ⟨_, rfl, _, _, _, _, false, rfl, ClsV.ty _, .base (.bl _), kit_ty (by decide +kernel), _, rfl, iteT (k H (Same.refl _))⟩
    | non => exact ⟨_, rfl, _, _, _, _, false, rfl, ClsV.ty _, .base .non, kit_ty (by decide +kernel), _, rfl, iteT (k H (Same.refl _))⟩
    | str x => exact ⟨_, rfl, _, _, _, _, false, rfl, ClsV.ty _, .base (.str _), kit_ty (by decide +kernel), _, rfl, iteT (k H (Same.refl _))⟩
    | lst hS _ => exact ⟨_, rfl, _, _, _, _, false, rfl, ClsV.ty _, tyx_lst hS, kit_ty (by decide +kernel), _, rfl, iteT (k H (Same.refl _))⟩
    | @tup t xs ds hS hA =>
    refine ⟨_, rfl, _, _, _, _, true, rfl, ClsV.ty _, tyx_tup hS, kit_ty (by decide +kernel), _, rfl, ?_⟩
    refine iteF ?_
    refine ⟨_, rfl, t, _, rfl, .inr hS, _, _, rfl, rfl, _, rfl, ?_⟩
    have hxl := dpall_len hA
    unfold hpsD at k
    simp only at k
    rw [← hxl] at k
    cases h2 : decide (2 ≤ xs.length) with
    | false =>
      have z : decide ((2 : Int) ≤ (xs.length : Int)) = false := decide_eq_false fun z => (of_decide_eq_false h2) (by omega)
      rw [z]
      refine iteF ⟨_, rfl, iteT ?_⟩
      rw [h2] at k
      exact k H (Same.refl _)
    | true =>
      have z : decide ((2 : Int) ≤ (xs.length : Int)) = true := decide_eq_true (by have := of_decide_eq_true h2; omega)
      rw [z]
      refine iteT ⟨_, _, rfl, rfl, _, rfl, ?_⟩
      cases h6 : decide (xs.length ≤ 6) with
      | false =>
        have z : decide ((xs.length : Int) ≤ 6) = false := decide_eq_false fun z => (of_decide_eq_false h6) (by omega)
        rw [z]
        refine iteT ?_
        rw [h2, h6] at k
        exact k H (Same.refl _)
      | true =>
        have z : decide ((xs.length : Int) ≤ 6) = true := decide_eq_true (by have := of_decide_eq_true h6; omega)
        rw [z]
        refine iteF ?_
        rw [h2, h6] at k
        have hx6 := of_decide_eq_true h6
        refine ⟨_, rfl, t, rfl, ⟨_, hS⟩, fun D hD => lc_tup (K := K) (a := t) (xs := xs) (fun i H1 => H1 D = some (.lst (((ds.take i).map (isIntD 0 (10 ^ 30))).map V.bl)) ∧ Same H H1) ⟨upd_same, Same.new hD⟩ (fun i H1 _ q => Same.tup q.2 hS) ?_ ?_⟩
        · rintro i x H1 hi ⟨hL, s1⟩
          obtain ⟨dx, hdx, hx⟩ := dpall_get hA hi
          refine ⟨rfl, _, rfl, x, dx, 0, 10 ^ 30, rfl, dp_same s1 hx, _, hL, ?_, ?_⟩
          · rw [List.length_map, List.length_map, List.length_take, sizeLine_eq]
            omega
          · refine ⟨?_, same_upd s1 hD⟩
            rw [upd_same, List.take_add_one, hdx]
            simp
        · rintro H1 ⟨hL, s1⟩
          rw [hxl, List.take_length] at hL
          refine ⟨D, _, rfl, SqL.of hL, _, rfl, ?_⟩
          cases ha : (ds.map (isIntD 0 (10 ^ 30))).all id with
          | false =>
            rw [ha] at k
            exact iteF (k _ s1)
          | true =>
            rw [ha] at k
            obtain ⟨e1, _⟩ := dpall_isint hA ha
            rw [e1] at hS
            exact iteT ⟨_, rfl, t, _, rfl, Same.tup s1 hS, _, _, rfl, rfl, k _ s1⟩
abbrev s_check_heaps : Stmt := top 25
theorem sc_check_heaps : FnScope ["heaps"] ["heaps"] (defScope s_check_heaps) := ⟨rfl, rfl, rfl, by decide +kernel, rfl, by decide +kernel, by decide +kernel⟩
theorem ok_check_heaps {f C : Addr} {fd : FuncData} (F : Fun K "check_heaps" "check_heaps" s_check_heaps f fd) (T : Tp mg) (B : NilX P K mg "BadHeaps" C) (C_is_heaps : Cal P w K mg base CX0 2 "is_heaps" ["value"] (spIsHeaps K)) : FnOk P w K mg base (L2N.CX P w) 3 f fd ["heaps"] (spChkHeapsD K C) := by
  refine okN F sc_check_heaps (fun vs H Q E h => ?_) (fun cdv A outer s H vs Q E hr h => ?_)
  · obtain ⟨v, d, rfl, _⟩ := h
    rfl
  · obtain ⟨v, d, rfl, hd, k1, k2⟩ := h
    refine ⟨_, (pss_one (ps_if (pt_not (pt_val (pe_cal C_is_heaps hr rfl pass0 (pa_cons (pv 0) pa_nil)))) (pss_one (L2N.ps_raise rfl (L2N.takes_of rfl rfl rfl rfl) (pmkN_nil B (hr.mono (by decide : 1 ≤ 2)) rfl))) pss_nil)), ?_⟩
    refine ⟨_, rfl, v, d, rfl, hd, fun H1 s1 => ⟨_, rfl, ?_⟩⟩
    cases hg : hpsD d with
    | true => exact iteF (k1 hg _ s1)
    | false => exact iteT (k2 hg _ s1)
end
end Hd
set_option maxHeartbeats 4000000
/-! Steps and what they do. -/
namespace Hd
open PySem PySem.Spec PyProof.Rows L2
/-- a step's tuple at its address, its two numbers -/
abbrev Srow := Addr × Nat × Nat
def StAt (K : PySem.W.Frag) (H : Hp) (n : Nat) (p : Srow) : Prop := SqT K H p.1 [.int (p.2.1 : Int), .int (p.2.2 : Int)] ∧ p.2.1 < n ∧ p.2.2 < n ∧ p.2.1 ≠ p.2.2
/-- a list at l of steps' tuples -/
structure PrL (K : PySem.W.Frag) (H : Hp) (l : Addr) (n : Nat) (ps : List Srow) : Prop where
  ls : H l = some (.lst (ps.map fun p => V.ref p.1))
  st : ∀ p ∈ ps, StAt K H n p
theorem StAt.same {K : PySem.W.Frag} {H H' : Hp} {n : Nat} {p : Srow} (e : Same H H') (h : StAt K H n p) : StAt K H' n p := ⟨Same.tup e h.1, h.2⟩
theorem PrL.same {K : PySem.W.Frag} {H H' : Hp} {t : Addr} {n : Nat} {ps : List Srow} (e : Same H H') (h : PrL K H t n ps) : PrL K H' t n ps := ⟨e _ _ h.ls, fun p hp => (h.st p hp).same e⟩
theorem PrL.stp {K : PySem.W.Frag} {H : Hp} {t : Addr} {n : Nat} {ps : List Srow} (h : PrL K H t n ps) : Stp n (ps.map (·.2)) := fun p hp => by
  obtain ⟨z, hz, rfl⟩ := List.mem_map.mp hp
  exact (h.st z hz).2
/-- a tuple stays where a list is written -/
theorem tup_at {K : PySem.W.Frag} {H : Hp} {l a : Addr} {xs ys : List V} {o : HO} (hl : H l = some (.lst ys)) (h : SqT K H a xs) : SqT K (upd H l o) a xs := by
  rcases h with (h | ⟨u, h⟩) | h
  · exact .inl (.inl (by rw [upd_ne (ne_of h hl (by intro z; cases z))]; exact h))
  · exact .inl (.inr ⟨u, by rw [upd_ne (ne_of h hl (by intro z; cases z))]; exact h⟩)
  · exact .inr h
theorem StAt.at_ {K : PySem.W.Frag} {H : Hp} {l : Addr} {ys : List V} {o : HO} {n : Nat} {p : Srow} (hl : H l = some (.lst ys)) (h : StAt K H n p) : StAt K (upd H l o) n p := ⟨tup_at hl h.1, h.2⟩
/-- .. more of them -/
theorem PrL.more {K : PySem.W.Frag} {H : Hp} {l : Addr} {n : Nat} {ps qs : List Srow} (h : PrL K H l n ps) (hq : ∀ p ∈ qs, StAt K H n p) : PrL K (upd H l (.lst (ps.map (fun p => V.ref p.1) ++ qs.map fun p => V.ref p.1))) l n (ps ++ qs) :=
  ⟨by rw [upd_same, List.map_append], fun p hp => (List.mem_append.mp hp).elim (fun z => (h.st p z).at_ h.ls) fun z => (hq p z).at_ h.ls⟩
def spShifted (K : PySem.W.Frag) : Sp := fun vs H Q _ => ∃ (t u : Addr) (ns : List Int) (i j : Nat) (m : Int), vs = [.ref t, .ref u, .int m] ∧ SqT K H t (ns.map V.int) ∧ SqT K H u [.int (i : Int), .int (j : Int)] ∧ i < ns.length ∧ j < ns.length ∧ i ≠ j ∧
  ∀ (p : Addr) (H' : Hp), Same H H' → H p = none → H' p = some (.tup ((shf ns i j m).map V.int)) → Q (.ref p) H'
def spBehind (K : PySem.W.Frag) : Sp := fun vs H Q _ => ∃ (t u : Addr) (ns : List Int) (i j : Nat), vs = [.ref t, .ref u] ∧ SqT K H t (ns.map V.int) ∧ SqT K H u [.int (i : Int), .int (j : Int)] ∧ i < ns.length ∧ j < ns.length ∧ i ≠ j ∧
  ∀ (p : Addr) (H' : Hp), Same H H' → H p = none → H' p = some (.tup ((mv ns i j).map V.int)) → Q (.ref p) H'
def spShiftedZ (K : PySem.W.Frag) : Sp := fun vs H Q _ => ∃ (t u : Addr) (ns : List Int) (i j : Nat) (m : Int), vs = [.ref t, .ref u, .int m] ∧ SqT K H t (ns.map V.int) ∧ SqT K H u [.int (i : Int), .int (j : Int)] ∧ i < ns.length ∧ j < ns.length ∧ i ≠ j ∧
  ∀ (p : Addr) (H' : Hp), Same H H' → H p = none → TupZ H' p ((shf ns i j m).map V.int) → Q (.ref p) H'
def spBehindZ (K : PySem.W.Frag) : Sp := fun vs H Q _ => ∃ (t u : Addr) (ns : List Int) (i j : Nat), vs = [.ref t, .ref u] ∧ SqT K H t (ns.map V.int) ∧ SqT K H u [.int (i : Int), .int (j : Int)] ∧ i < ns.length ∧ j < ns.length ∧ i ≠ j ∧
  ∀ (p : Addr) (H' : Hp), Same H H' → H p = none → TupZ H' p ((mv ns i j).map V.int) → Q (.ref p) H'
theorem thaw_shifted {K : PySem.W.Frag} {vs : List V} {H : Hp} {Q : VK} {E : XK} (h : spShifted K vs H Q E) : spShiftedZ K vs H (fun v H' => ∃ a o xs, v = .ref a ∧ H a = none ∧ H' a = some (.frz o (.tup xs)) ∧ Q v (upd H' a (.tup xs))) E := by
  obtain ⟨t, u, ns, i, j, m, rfl, hS, hU, hi, hj, hij, k⟩ := h
  exact ⟨t, u, ns, i, j, m, rfl, hS, hU, hi, hj, hij, fun p H' s hp ⟨o, _, hz⟩ => ⟨p, o, _, rfl, hp, hz, k p _ (same_thaw s hp) hp upd_same⟩⟩
theorem thaw_behind {K : PySem.W.Frag} {vs : List V} {H : Hp} {Q : VK} {E : XK} (h : spBehind K vs H Q E) : spBehindZ K vs H (fun v H' => ∃ a o xs, v = .ref a ∧ H a = none ∧ H' a = some (.frz o (.tup xs)) ∧ Q v (upd H' a (.tup xs))) E := by
  obtain ⟨t, u, ns, i, j, rfl, hS, hU, hi, hj, hij, k⟩ := h
  exact ⟨t, u, ns, i, j, rfl, hS, hU, hi, hj, hij, fun p H' s hp ⟨o, _, hz⟩ => ⟨p, o, _, rfl, hp, hz, k p _ (same_thaw s hp) hp upd_same⟩⟩
def spBehindAll (K : PySem.W.Frag) : Sp := fun vs H Q _ => ∃ (t u : Addr) (ns m : List Int) (ps : List Srow), vs = [.ref t, .ref u] ∧ SqT K H t (ns.map V.int) ∧ PrL K H u ns.length ps ∧ run ns (ps.map (·.2)) = some m ∧
  ∀ (p : Addr) (H' : Hp), Same H H' → SqT K H' p (m.map V.int) → Q (.ref p) H'
def spCan (K : PySem.W.Frag) : Sp := fun vs H Q _ => ∃ (t u : Addr) (ns : List Int) (i j : Nat), vs = [.ref t, .ref u] ∧ SqT K H t (ns.map V.int) ∧ SqT K H u [.int (i : Int), .int (j : Int)] ∧ i < ns.length ∧ j < ns.length ∧ Q (.bl (can ns i j)) H
def spIsPair (K : PySem.W.Frag) : Sp := fun vs H Q _ => ∃ (v : V) (d : PyData) (n : Int), vs = [.int n, v] ∧ Dp K H v d ∧ Q (.bl (prD n d)) H
def spChkStep (K : PySem.W.Frag) (C : Addr) : Sp := fun vs H Q E => ∃ (t : Addr) (v : V) (d : PyData) (ns : List Int), vs = [.ref t, v] ∧ SqT K H t (ns.map V.int) ∧ Dp K H v d ∧ (stD ns d = true → Q .non H) ∧ (stD ns d = false → E (.ref C) none H)
def spPairs (K : PySem.W.Frag) : Sp := fun vs H Q _ => ∃ n : Nat, vs = [.int (n : Int)] ∧ n ≤ 6 ∧ ∀ (l : Addr) (qs : List (Addr × Nat × Nat)) (H' : Hp), Same H H' → H l = none → PrL K H' l n qs → qs.map (·.2) = prs n → Q (.ref l) H'
def spSteps (K : PySem.W.Frag) : Sp := fun vs H Q _ => ∃ (t : Addr) (ns : List Int), vs = [.ref t] ∧ SqT K H t (ns.map V.int) ∧ ns.length ≤ 6 ∧ ∀ (l : Addr) (qs : List (Addr × Nat × Nat)) (H' : Hp), Same H H' → H l = none → PrL K H' l ns.length qs → qs.map (·.2) = due ns → Q (.ref l) H'
/-- a list at l of heaps, each a tuple -/
abbrev Hrow := Addr × List Int
structure HpL (K : PySem.W.Frag) (H : Hp) (l : Addr) (hs : List Hrow) : Prop where
  ls : H l = some (.lst (hs.map fun p => V.ref p.1))
  st : ∀ p ∈ hs, SqT K H p.1 (p.2.map V.int)
theorem HpL.same {K : PySem.W.Frag} {H H' : Hp} {t : Addr} {hs : List Hrow} (e : Same H H') (h : HpL K H t hs) : HpL K H' t hs := ⟨e _ _ h.ls, fun p hp => Same.tup e (h.st p hp)⟩
def spAllBehind (K : PySem.W.Frag) : Sp := fun vs H Q _ => ∃ (t : Addr) (ns : List Int), vs = [.ref t] ∧ SqT K H t (ns.map V.int) ∧ ns.length ≤ 6 ∧ ∀ (l : Addr) (hs : List Hrow) (H' : Hp), Same H H' → H l = none → HpL K H' l hs → hs.map (·.2) = (due ns).map (fun q => mv ns q.1 q.2) → (∀ p ∈ hs, H p.1 = none ∧ H' p.1 = some (.tup (p.2.map V.int))) → Q (.ref l) H'
/-- a plan at t: each step's tuple, its two numbers -/
structure PlanAt (K : PySem.W.Frag) (H : Hp) (t : Addr) (n : Nat) (ps : List Srow) : Prop where
  tp : SqT K H t (ps.map fun p => V.ref p.1)
  st : ∀ p ∈ ps, StAt K H n p
theorem PlanAt.same {K : PySem.W.Frag} {H H' : Hp} {t : Addr} {n : Nat} {ps : List Srow} (e : Same H H') (h : PlanAt K H t n ps) : PlanAt K H' t n ps := ⟨Same.tup e h.tp, fun p hp => (h.st p hp).same e⟩
theorem dpall_P {K : PySem.W.Frag} {H : Hp} {n : Nat} : ∀ ps : List Srow, (∀ p ∈ ps, StAt K H n p) → DpAll K H (ps.map fun p => V.ref p.1) ((ps.map (·.2)).map dS)
  | [], _ => .nil
  | p :: ps, h => .cons (dp_S (h p (List.mem_cons_self ..)).1) (dpall_P ps fun q hq => h q (List.mem_cons_of_mem _ hq))
theorem PlanAt.dp {K : PySem.W.Frag} {H : Hp} {t : Addr} {n : Nat} {ps : List Srow} (h : PlanAt K H t n ps) : Dp K H (.ref t) (dP (ps.map (·.2))) := .tup h.tp (dpall_P ps h.st)
theorem PrL.dp {K : PySem.W.Frag} {H : Hp} {t : Addr} {n : Nat} {ps : List Srow} (h : PrL K H t n ps) : Dp K H (.ref t) (.list ((ps.map (·.2)).map dS)) := .lst (SqL.of h.ls) (dpall_P ps h.st)
def spChkPlan (K : PySem.W.Frag) : Sp := fun vs H Q _ => ∃ (t : Addr) (n : Nat) (ps : List Srow), vs = [.int (n : Int), .ref t] ∧ PlanAt K H t n ps ∧ ps.length ≤ 20000 ∧ ∀ H', Same H H' → Q .non H'
theorem dec_int (a b : Int) : decide (V.int a = V.int b) = decide (a = b) := by
  by_cases z : a = b
  · subst z
    rw [decide_eq_true rfl, decide_eq_true rfl]
  · rw [decide_eq_false z, decide_eq_false fun q => z (V.int.inj q)]
/-- a loop over range(n), whatever its body -/
theorem over_range {n : Nat} {H0 : Hp} {Qd : Hp → Prop} {body : V → Hp → (Hp → Prop) → Prop} (Pv : Nat → Hp → Prop) (h0 : Pv 0 H0) (hs : ∀ i H, i < n → Pv i H → body (.int (0 + (i : Int))) H (Pv (i + 1))) (hd : ∀ H, Pv n H → Qd H) :
    ∃ W : Nat → Nat → Hp → Prop, (∃ m, W 0 m H0) ∧ ∀ i m H, W i m H → ((Itr 0 n).stop i H ∧ Qd H) ∨ ((Itr 0 n).go i H ∧ ∃ Nx : Hp → Prop, (∀ H', Nx H' → ∃ m', m' < m ∧ W (i + 1) m' H') ∧ ∀ x H', (Itr 0 n).yld i H x H' → body x H' Nx) := by
  refine ⟨fun i m H => m + i = n ∧ Pv i H, ⟨n, rfl, h0⟩, fun i m H ⟨e, p⟩ => ?_⟩
  by_cases lt : i < n
  · refine .inr ⟨lt, Pv (i + 1), fun H' p' => ⟨m - 1, by omega, by omega, p'⟩, fun x H' y => ?_⟩
    rw [y.1, y.2]
    exact hs i H lt p
  · have e2 : i = n := by omega
    rw [e2] at p ⊢
    exact .inl ⟨Nat.le_refl n, hd H p⟩
def dbl (x : Int) : Bool := decide (0 < x) && decide (x % 2 = 0)
def erl (ns : List Int) (i j : Nat) : List Int := shf ns i j (-(ns.getD j 0 / 2))
def spDbl : Sp := fun vs H Q _ => ∃ x : Int, vs = [.int x] ∧ Q (.bl (dbl x)) H
def spErl (K : PySem.W.Frag) : Sp := fun vs H Q _ => ∃ (t u : Addr) (ns : List Int) (i j : Nat), vs = [.ref t, .ref u] ∧ SqT K H t (ns.map V.int) ∧ SqT K H u [.int (i : Int), .int (j : Int)] ∧ i < ns.length ∧ j < ns.length ∧ i ≠ j ∧
  ∀ (p : Addr) (H' : Hp), Same H H' → H p = none → H' p = some (.tup ((erl ns i j).map V.int)) → Q (.ref p) H'
section
variable {P : Program} {w : World} {K : PySem.W.Frag} {mg : Str → Option Value} {base : Heap}
abbrev s_is_pair_of : Stmt := top 24
theorem sc_is_pair_of : FnScope ["many", "value", "one", "other"] ["many", "value"] (defScope s_is_pair_of) := ⟨rfl, rfl, rfl, by decide +kernel, rfl, by decide +kernel, by decide +kernel⟩
theorem ok_is_pair_of {f : Addr} {fd : FuncData} (F : Fun K "is_pair_of" "is_pair_of" s_is_pair_of f fd) (T : Tp mg) (C_is_integer : Cal P w K mg base CX0 1 "is_integer" ["value", "least", "greatest"] (spIsInt K)) : FnOk P w K mg base CX0 2 f fd ["many", "value"] (spIsPair K) := by
  refine F.ok sc_is_pair_of (fun vs H Q E h => ?_) (fun cdv A outer s H vs Q E hr h => ?_)
  · obtain ⟨v, d, n, rfl, _⟩ := h
    rfl
  · obtain ⟨v, d, n, rfl, hd, k⟩ := h
    refine ⟨_, (pss_cons (ps_if (PW.pt (pw_or (pt_not (pt_val (pe_callB call_isi (by rfl) T.isinstance (by decide +kernel) (pa_cons (pv 1) (pa_cons (pe_bltn (v := .ty "tuple") (u := .type "tuple") (by rfl) T.tuple (by decide +kernel) rfl) pa_nil))))) (pw_or1 (pt_cmpR op_ne (pe_callB call_len_seq (by rfl) T.len PySem.boot_len (pa_cons (pv 1) pa_nil)) pe_int (nomark _))))) (pss_one (ps_ret pe_bl)) pss_nil)
      (pss_cons (ps_asg (pv 1) (pg_tup rfl (pgs_cons (pg_name (i := 2) sc_is_pair_of.nd rfl (Or.inl rfl)) (pgs_cons (pg_name (i := 3) sc_is_pair_of.nd rfl (Or.inl rfl)) pgs_nil))))
      (pss_one (ps_ret (pe_and (pe_cal C_is_integer hr rfl pass0 (pa_cons (pv 2) (pa_cons pe_int (pa_cons (pe_op op_sub (pv 0) pe_int) pa_nil)))) (pe_and (pe_cal C_is_integer hr rfl pass0 (pa_cons (pv 3) (pa_cons pe_int (pa_cons (pe_op op_sub (pv 0) pe_int) pa_nil)))) (pe_one (pe_cmpR op_ne (pv 2) (pv 3) (nomark _))))))))), ?_⟩
    cases hd with
    | int v => exact ⟨_, rfl, _, _, _, _, false, rfl, ClsV.ty _, .base (.int _), kit_ty (by decide +kernel), _, rfl, iteT k⟩
    | bl b => exact ⟨_, rfl, _, _, _, _, false, rfl, ClsV.ty _, .base (.bl _), kit_ty (by decide +kernel), _, rfl, iteT k⟩
    | non => exact ⟨_, rfl, _, _, _, _, false, rfl, ClsV.ty _, .base .non, kit_ty (by decide +kernel), _, rfl, iteT k⟩
    | str x => exact ⟨_, rfl, _, _, _, _, false, rfl, ClsV.ty _, .base (.str _), kit_ty (by decide +kernel), _, rfl, iteT k⟩
    | lst hS _ => exact ⟨_, rfl, _, _, _, _, false, rfl, ClsV.ty _, tyx_lst hS, kit_ty (by decide +kernel), _, rfl, iteT k⟩
    | @tup t xs ds hS hA =>
    refine ⟨_, rfl, _, _, _, _, true, rfl, ClsV.ty _, tyx_tup hS, kit_ty (by decide +kernel), _, rfl, ?_⟩
    refine iteF ?_
    have hxl := dpall_len hA
    by_cases h2 : xs.length = 2
    · obtain ⟨x, y, rfl⟩ : ∃ x y, xs = [x, y] := by
        match xs, h2 with
        | [x, y], _ => exact ⟨x, y, rfl⟩
      cases hA with
      | @cons _ _ a _ ha hB =>
      cases hB with
      | @cons _ _ b _ hb hC =>
      cases hC
      refine ⟨_, rfl, t, _, rfl, .inr hS, rfl, _, rfl, iteNS rfl ?_⟩
      refine ⟨_, rfl, t, _, rfl, hS, rfl, _, _, rfl, _, _, rfl, rfl, ?_⟩
      refine ⟨_, rfl, _, rfl, _, _, rfl, rfl, _, _, _, _, rfl, ha, _, rfl, ?_⟩
      unfold prD at k
      simp only at k
      cases ha1 : isIntD 0 (n - 1) a with
      | false =>
        rw [ha1] at k
        exact iteF k
      | true =>
        rw [ha1] at k
        obtain ⟨i, rfl, _, _⟩ := isInt_eq ha1
        cases ha
        refine iteT ⟨_, rfl, _, rfl, _, _, rfl, rfl, _, _, _, _, rfl, hb, _, rfl, ?_⟩
        cases hb1 : isIntD 0 (n - 1) b with
        | false =>
          rw [hb1] at k
          exact iteF k
        | true =>
          rw [hb1] at k
          obtain ⟨j, rfl, _, _⟩ := isInt_eq hb1
          cases hb
          refine iteT ⟨_, rfl, _, rfl, rfl, ?_⟩
          rw [dec_int]
          exact k
    · have e0 : prD n (.tuple ds) = false := by
        unfold prD
        split
        · rename_i a b e
          cases e
          exact absurd hxl h2
        · rfl
      rw [e0] at k
      refine ⟨_, rfl, t, _, rfl, .inr hS, rfl, _, rfl, ?_⟩
      rw [decide_eq_false (show ¬ V.int (xs.length : Int) = V.int 2 from fun z => h2 (by have := V.int.inj z; omega))]
      exact iteT k
abbrev s_can_be_made : Stmt := top 13
theorem sc_can_be_made : FnScope ["heaps", "step", "one", "other"] ["heaps", "step"] (defScope s_can_be_made) := ⟨rfl, rfl, rfl, by decide +kernel, rfl, by decide +kernel, by decide +kernel⟩
theorem ok_can_be_made {f : Addr} {fd : FuncData} (F : Fun K "can_be_made" "can_be_made" s_can_be_made f fd) : FnOk P w K mg base CX0 1 f fd ["heaps", "step"] (spCan K) := by
  refine F.ok sc_can_be_made (fun vs H Q E h => ?_) (fun cdv A outer s H vs Q E hr h => ?_)
  · obtain ⟨t, u, ns, i, j, rfl, _⟩ := h
    rfl
  · obtain ⟨t, u, ns, i, j, rfl, hS, hU, hi, hj, k⟩ := h
    refine ⟨_, (pss_cons (ps_asg (pv 1) (pg_tup rfl (pgs_cons (pg_name (i := 2) sc_can_be_made.nd rfl (Or.inl rfl)) (pgs_cons (pg_name (i := 3) sc_can_be_made.nd rfl (Or.inl rfl)) pgs_nil))))
      (pss_one (ps_ret (pe_chain op_lt op_le pe_int (pe_ix ix_tup (pv 0) (pv 3) (fun _ _ => rfl)) (pe_ix ix_tup (pv 0) (pv 2) (fun _ _ => rfl)))))), ?_⟩
    refine ⟨_, rfl, u, _, rfl, hU, rfl, _, _, rfl, _, _, rfl, rfl, ?_⟩
    refine ⟨_, rfl, _, rfl, t, _, _, _, rfl, rfl, hS, at_of rfl (getD_at hj), _, _, rfl, rfl, _, rfl, ?_⟩
    unfold can at k
    cases hd : decide (0 < ns.getD j 0) with
    | false =>
      rw [hd] at k
      exact iteF k
    | true =>
      rw [hd] at k
      exact iteT ⟨_, rfl, _, rfl, t, _, _, _, rfl, rfl, hS, at_of rfl (getD_at hi), _, _, rfl, rfl, k⟩
abbrev s_shifted : Stmt := top 15
theorem sc_shifted : FnScope ["heaps", "step", "many", "one", "other", "stand"] ["heaps", "step", "many"] (defScope s_shifted) := ⟨rfl, rfl, rfl, by decide +kernel, rfl, by decide +kernel, by decide +kernel⟩
theorem ok_shifted {f : Addr} {fd : FuncData} (F : Fun K "shifted" "shifted" s_shifted f fd) (T : Tp mg) : FnOk P w K mg base CX0 1 f fd ["heaps", "step", "many"] (spShiftedZ K) := by
  refine F.ok sc_shifted (fun vs H Q E h => ?_) (fun cdv A outer s H vs Q E hr h => ?_)
  · obtain ⟨t, u, ns, i, j, m, rfl, _⟩ := h
    rfl
  · obtain ⟨t, u, ns, i, j, m, rfl, hS, hU, hi, hj, hij, k⟩ := h
    refine ⟨_, (pss_cons (ps_asg (pv 1) (pg_tup rfl (pgs_cons (pg_name (i := 3) sc_shifted.nd rfl (Or.inl rfl)) (pgs_cons (pg_name (i := 4) sc_shifted.nd rfl (Or.inl rfl)) pgs_nil))))
      (pss_cons (ps_set (i := 5) sc_shifted.nd rfl (Or.inl rfl) (pe_callTy call_list_of (by rfl) T.list (by decide +kernel) (pa_cons (pv 0) pa_nil)))
      (pss_cons (ps_augS (pv 5) (pv 3) pget_list (pv 2) ip_sub set_list)
      (pss_cons (ps_augS (pv 5) (pv 4) pget_list (pv 2) ip_add set_list)
      (pss_one (ps_ret (pe_callTy call_tupleZ (by rfl) T.tuple (by decide +kernel) (pa_cons (pv 5) pa_nil)))))))), ?_⟩
    refine ⟨_, rfl, u, _, rfl, hU, rfl, _, _, rfl, _, _, rfl, rfl, ?_⟩
    refine ⟨_, rfl, t, _, rfl, .inr hS, fun l hl => ?_⟩
    refine ⟨_, rfl, _, rfl, l, _, _, _, rfl, rfl, SqL.of upd_same, by omega, (by rw [Int.toNat_natCast]; exact getD_at hi), _, rfl, _, _, rfl, rfl, l, _, _, i, rfl, rfl, upd_same, (by rw [List.length_map]; exact ixN_nat hi), ?_⟩
    rw [upd_upd]
    refine ⟨_, rfl, _, rfl, l, _, _, _, rfl, rfl, SqL.of upd_same, by omega, (by rw [Int.toNat_natCast, List.getElem?_set_ne hij]; exact getD_at hj), _, rfl, _, _, rfl, rfl, l, _, _, j, rfl, rfl, upd_same, (by rw [List.length_set, List.length_map]; exact ixN_nat hj), ?_⟩
    rw [upd_upd]
    refine ⟨_, rfl, l, _, rfl, SqL.of upd_same, fun p o hp ho => ?_⟩
    have hpl : p ≠ l := fun e => by
      rw [e, upd_same] at hp
      cases hp
    have hp0 : H p = none := by
      rw [upd_ne hpl] at hp
      exact hp
    refine k p _ (same_upd (Same.new hl) hp0) hp0 ⟨o, ho, ?_⟩
    rw [upd_same]
    unfold shf
    rw [List.map_set, List.map_set]
abbrev s_behind : Stmt := top 16
theorem sc_behind : FnScope ["heaps", "step"] ["heaps", "step"] (defScope s_behind) := ⟨rfl, rfl, rfl, by decide +kernel, rfl, by decide +kernel, by decide +kernel⟩
theorem ok_behind {f : Addr} {fd : FuncData} (F : Fun K "behind" "behind" s_behind f fd) (C_shifted : Cal P w K mg base CX0 1 "shifted" ["heaps", "step", "many"] (spShiftedZ K)) : FnOk P w K mg base CX0 2 f fd ["heaps", "step"] (spBehindZ K) := by
  refine F.ok sc_behind (fun vs H Q E h => ?_) (fun cdv A outer s H vs Q E hr h => ?_)
  · obtain ⟨t, u, ns, i, j, rfl, _⟩ := h
    rfl
  · obtain ⟨t, u, ns, i, j, rfl, hS, hU, hi, hj, hij, k⟩ := h
    refine ⟨_, (pss_one (ps_ret (pe_cal C_shifted hr rfl pass0 (pa_cons (pv 0) (pa_cons (pv 1) (pa_cons (pe_ix ix_tup (pv 0) (pe_ix ix_tup (pv 1) pe_int (fun _ _ => rfl)) (fun _ _ => rfl)) pa_nil)))))), ?_⟩
    exact ⟨_, rfl, _, rfl, _, rfl, _, rfl, u, _, _, _, rfl, rfl, hU, rfl, t, _, _, _, rfl, rfl, hS, at_of rfl (getD_at hj), t, u, ns, i, j, _, rfl, hS, hU, hi, hj, hij, k⟩
abbrev s_check_step : Stmt := top 26
theorem sc_check_step : FnScope ["heaps", "step"] ["heaps", "step"] (defScope s_check_step) := ⟨rfl, rfl, rfl, by decide +kernel, rfl, by decide +kernel, by decide +kernel⟩
theorem ok_check_step {f C : Addr} {fd : FuncData} (F : Fun K "check_step" "check_step" s_check_step f fd) (T : Tp mg) (B : NilX P K mg "BadStep" C) (C_is_pair_of : Cal P w K mg base CX0 2 "is_pair_of" ["many", "value"] (spIsPair K))
    (C_can_be_made : Cal P w K mg base CX0 1 "can_be_made" ["heaps", "step"] (spCan K)) : FnOk P w K mg base (L2N.CX P w) 3 f fd ["heaps", "step"] (spChkStep K C) := by
  refine okN F sc_check_step (fun vs H Q E h => ?_) (fun cdv A outer s H vs Q E hr h => ?_)
  · obtain ⟨t, v, d, ns, rfl, _⟩ := h
    rfl
  · obtain ⟨t, v, d, ns, rfl, S1, hd, k1, k2⟩ := h
    refine ⟨_, (pss_one (ps_if (PW.pt (pw_or (pt_not (pt_val (pe_cal C_is_pair_of hr rfl pass0 (pa_cons (pe_callB call_len_seq (by rfl) T.len PySem.boot_len (pa_cons (pv 0) pa_nil)) (pa_cons (pv 1) pa_nil))))) (pw_or1 (pt_not (pt_val (pe_cal C_can_be_made hr rfl pass0 (pa_cons (pv 0) (pa_cons (pv 1) pa_nil)))))))) (pss_one (L2N.ps_raise rfl (L2N.takes_of rfl rfl rfl rfl) (pmkN_nil B (hr.mono (by decide : 1 ≤ 2)) rfl))) pss_nil)), ?_⟩
    refine ⟨_, rfl, t, _, rfl, .inr S1, _, rfl, v, d, _, rfl, hd, _, rfl, ?_⟩
    rw [List.length_map]
    cases hp : prD ns.length d with
    | false => exact iteT (k2 (stD_nopr hp))
    | true =>
      obtain ⟨i, j, rfl, hi, hj, hij⟩ := prD_eq hp
      cases hd with
      | tup hU hA =>
      cases hA with
      | cons ha hB =>
      cases hB with
      | cons hb hC =>
      cases hC
      cases ha
      cases hb
      refine iteF ⟨_, rfl, _, rfl, t, _, ns, i, j, rfl, S1, hU, hi, hj, _, rfl, ?_⟩
      cases hc : can ns i j with
      | true => exact iteF (k1 (by rw [stD_dS, hc, decide_eq_true hi, decide_eq_true hj, decide_eq_true hij]; rfl))
      | false => exact iteT (k2 (by rw [stD_dS, hc, Bool.and_false]))
abbrev s_check_plan : Stmt := top 27
theorem sc_check_plan : FnScope ["many", "plan", "index", "step"] ["many", "plan"] (defScope s_check_plan) := ⟨rfl, rfl, rfl, by decide +kernel, rfl, by decide +kernel, by decide +kernel⟩
theorem ok_check_plan {f : Addr} {fd : FuncData} (F : Fun K "check_plan" "check_plan" s_check_plan f fd) (T : Tp mg) (c_LP : ∃ t, mg "LONGEST_PLAN" = some (.int 20000 t)) (C_is_pair_of : Cal P w K mg base CX0 2 "is_pair_of" ["many", "value"] (spIsPair K)) : FnOk P w K mg base CX0 3 f fd ["many", "plan"] (spChkPlan K) := by
  refine F.ok sc_check_plan (fun vs H Q E h => ?_) (fun cdv A outer s H vs Q E hr h => ?_)
  · obtain ⟨t, n, ps, rfl, _⟩ := h
    rfl
  · obtain ⟨t, n, ps, rfl, hP, hl, k⟩ := h
    refine ⟨_, (pss_cons (ps_if (PW.pt (pw_or (pt_not (pt_val (pe_callB call_isi (by rfl) T.isinstance (by decide +kernel) (pa_cons (pv 1) (pa_cons (pe_bltn (v := .ty "tuple") (u := .type "tuple") (by rfl) T.tuple (by decide +kernel) rfl) pa_nil))))) (pw_or1 (pt_cmpR op_gt (pe_callB call_len_seq (by rfl) T.len PySem.boot_len (pa_cons (pv 1) pa_nil)) (pe_gint rfl c_LP) (nomark _))))) (pss_one ps_never) pss_nil)
      (pss_one (ps_for PassesOwn.never rfl (pi_enumT (by rfl) T.enumerate (pa_cons (pv 1) pa_nil)) (pg_tup rfl (pgs_cons (pg_name (i := 2) sc_check_plan.nd rfl (Or.inl rfl)) (pgs_cons (pg_name (i := 3) sc_check_plan.nd rfl (Or.inl rfl)) pgs_nil)))
      (pss_one (ps_if (pt_not (pt_val (pe_cal C_is_pair_of hr rfl pass0 (pa_cons (pv 0) (pa_cons (pv 3) pa_nil))))) (pss_one ps_never) pss_nil))))), ?_⟩
    refine ⟨_, rfl, _, _, _, _, true, rfl, ClsV.ty _, tyx_tup hP.tp, kit_ty (by decide +kernel), _, rfl, ?_⟩
    refine iteF ?_
    refine ⟨_, rfl, t, _, rfl, .inr hP.tp, _, _, rfl, rfl, _, rfl, ?_⟩
    rw [List.length_map]
    have z : decide ((20000 : Int) < (ps.length : Int)) = false := decide_eq_false (by omega)
    rw [z]
    refine iteF ?_
    refine ⟨_, rfl, t, _, rfl, hP.tp, for_it (walk_enumT (K := K) (a := t) (xs := ps.map fun p => V.ref p.1)) (fun i σ H1 => ∃ v1 v2 : Option V, σ = [some (.int (n : Int)), some (.ref t), v1, v2] ∧ Same H H1) ⟨none, none, rfl, Same.refl _⟩ (fun i σ H1 _ ⟨_, _, _, s1⟩ => Same.tup s1 hP.tp) ?_ ?_⟩
    · rintro i x σ H1 H2 hi ⟨v1, v2, rfl, s1⟩ ⟨TT, x1, x2, rfl, hT, rfl, e1, e2⟩
      rw [List.length_map] at hi
      have e1' := Option.some.inj e1
      subst e1'
      dsimp only at e2
      rw [List.getElem?_map, List.getElem?_eq_getElem hi] at e2
      have e2' := Option.some.inj e2
      subst e2'
      have s2 : Same H (upd H1 TT (.tup [.int (i : Nat), .ref ps[i].1])) := s1.trans (Same.new hT)
      obtain ⟨q1, q2, q3, q4⟩ := hP.st ps[i] (List.getElem_mem hi)
      refine ⟨TT, _, rfl, SqT.of upd_same, rfl, _, _, rfl, _, _, rfl, rfl, ?_⟩
      refine ⟨_, rfl, _, rfl, _, dS (ps[i].2.1, ps[i].2.2), _, rfl, dp_S (Same.tup s2 q1), _, rfl, ?_⟩
      have g : prD (n : Int) (dS (ps[i].2.1, ps[i].2.2)) = true := by rw [prD_dS, decide_eq_true q2, decide_eq_true q3, decide_eq_true q4]; rfl
      rw [g]
      exact iteF ⟨_, _, rfl, s2⟩
    · rintro σ H1 ⟨v1, v2, rfl, s1⟩
      exact k _ s1
abbrev s_pairs_of : Stmt := top 12
theorem sc_pairs_of : FnScope ["many", "one", "other"] ["many"] (defScope s_pairs_of) := ⟨rfl, rfl, rfl, by decide +kernel, rfl, by decide +kernel, by decide +kernel⟩
theorem ok_pairs_of {f : Addr} {fd : FuncData} (F : Fun K "pairs_of" "pairs_of" s_pairs_of f fd) (T : Tp mg) : FnOk P w K mg base CX0 1 f fd ["many"] (spPairs K) := by
  refine F.ok sc_pairs_of (fun vs H Q E h => ?_) (fun cdv A outer s H vs Q E hr h => ?_)
  · obtain ⟨n, rfl, _⟩ := h
    rfl
  · obtain ⟨n, rfl, hn, k⟩ := h
    refine ⟨_, (pss_one (ps_ret (pe_lc2 (own := [("one", 1), ("other", 2)]) (vs1 := [2]) (g := gName 1) (g1 := gName 2) (by rfl) sc_pairs_of.nd (pi_range1 rfl T.range (pa_cons (pv 0) pa_nil)) (blkOk_by (own := [("one", 1), ("other", 2)]) (N := ["many", "one", "other"]) (sc := defScope s_pairs_of) (by decide +kernel)) (by decide)
      (fun _ _ _ _ _ => pg_name (i := 1) sc_pairs_of.nd rfl (Or.inl rfl)) (fun _ _ _ _ _ => pts_nil) (fun _ _ _ _ _ => pi_range1 rfl T.range (pa_cons (pv 0) pa_nil)) (fun _ _ _ _ _ => pg_name (i := 2) sc_pairs_of.nd rfl (Or.inl rfl))
      (fun _ _ _ _ _ => pts_one (pt_cmpR op_ne (pv 1) (pv 2) (nomark _))) (fun _ _ _ _ _ => pe_tup (pa_cons (pv 1) (pa_cons (pv 2) pa_nil)))))), ?_⟩
    refine ⟨_, rfl, _, rfl, by omega, by omega, ?_⟩
    rw [Int.toNat_natCast]
    intro D hD
    refine over_range (n := n) (fun i H1 => ∃ qs : List (Addr × Nat × Nat), Same H H1 ∧ PrL K H1 D n qs ∧ qs.map (·.2) = prsTo n i) ⟨[], Same.new hD, ⟨upd_same, fun p hp => (nomatch hp)⟩, rfl⟩ ?_ ?_
    · rintro i H1 hi ⟨qs, s1, hP, hq⟩
      refine ⟨rfl, _, rfl, _, rfl, by omega, by omega, ?_⟩
      rw [Int.toNat_natCast]
      refine over_range (n := n) (fun j H2 => ∃ rs : List (Addr × Nat × Nat), Same H H2 ∧ PrL K H2 D n rs ∧ rs.map (·.2) = prsTo n i ++ rowTo i j) ⟨qs, s1, hP, by rw [hq]; exact (List.append_nil _).symm⟩ ?_ ?_
      · rintro j H2 hj ⟨rs, s2, hR, hr2⟩
        rw [Int.zero_add, Int.zero_add]
        refine ⟨rfl, _, rfl, _, rfl, rfl, _, rfl, ?_⟩
        rw [dec_int]
        have hrl : rs.length ≤ 36 + 6 := by
          have e := congrArg List.length hr2
          rw [List.length_map, List.length_append] at e
          have e2 := prsTo_short hn i (by omega)
          have e3 : (rowTo i j).length ≤ j := by
            unfold rowTo
            rw [List.length_map]
            exact Nat.le_trans (List.length_filter_le _ _) (by rw [List.length_range]; exact Nat.le_refl _)
          omega
        by_cases hji : j = i
        · rw [decide_eq_true (show (i : Int) = (j : Int) by omega)]
          refine iteF ⟨rs, s2, hR, ?_⟩
          rw [rowTo_succ, if_pos hji, List.append_nil]
          exact hr2
        · rw [decide_eq_false (show ¬ (i : Int) = (j : Int) by omega)]
          refine iteT ⟨_, rfl, _, rfl, by show 2 ≤ sizeLine; decide, fun TT hT => ?_⟩
          have s3 : Same H2 (upd H2 TT (.tup [.int (i : Int), .int (j : Int)])) := Same.new hT
          have nTD : TT ≠ D := (ne_of_none hR.ls hT).symm
          refine ⟨_, s3 _ _ hR.ls, ?_, rs ++ [(TT, i, j)], same_upd (s2.trans s3) hD, ⟨?_, fun p hp => ?_⟩, ?_⟩
          · rw [List.length_map, sizeLine_eq]
            omega
          · rw [upd_same, List.map_append]
            rfl
          · rcases List.mem_append.mp hp with hp | hp
            · obtain ⟨a, b⟩ := hR.st p hp
              have a3 := Same.tup s3 a
              refine ⟨?_, b⟩
              rcases a3 with (a3 | ⟨o, a3⟩) | a3
              · exact .inl (.inl (by rw [upd_ne (ne_of a3 (s3 _ _ hR.ls) (by intro z; cases z))]; exact a3))
              · exact .inl (.inr ⟨o, by rw [upd_ne (ne_of a3 (s3 _ _ hR.ls) (by intro z; cases z))]; exact a3⟩)
              · exact .inr a3
            · have ep : p = (TT, i, j) := by simpa using hp
              subst ep
              exact ⟨SqT.of (by rw [upd_ne nTD, upd_same]), hi, hj, fun z => hji z.symm⟩
          · rw [List.map_append, hr2, rowTo_succ, if_neg hji, List.append_assoc]
            rfl
      · rintro H2 ⟨rs, s2, hR, hr2⟩
        refine ⟨rs, s2, hR, ?_⟩
        rw [hr2, prsTo_succ]
        rfl
    · rintro H1 ⟨qs, s1, hP, hq⟩
      exact k D qs H1 s1 hD hP hq
abbrev s_steps_from : Stmt := top 14
theorem sc_steps_from : FnScope ["heaps", "step"] ["heaps"] (defScope s_steps_from) := ⟨rfl, rfl, rfl, by decide +kernel, rfl, by decide +kernel, by decide +kernel⟩
theorem ok_steps_from {f : Addr} {fd : FuncData} (F : Fun K "steps_from" "steps_from" s_steps_from f fd) (T : Tp mg) (C_pairs_of : Cal P w K mg base CX0 1 "pairs_of" ["many"] (spPairs K))
    (C_can_be_made : Cal P w K mg base CX0 1 "can_be_made" ["heaps", "step"] (spCan K)) : FnOk P w K mg base CX0 2 f fd ["heaps"] (spSteps K) := by
  refine F.ok sc_steps_from (fun vs H Q E h => ?_) (fun cdv A outer s H vs Q E hr h => ?_)
  · obtain ⟨t, ns, rfl, _⟩ := h
    rfl
  · obtain ⟨t, ns, rfl, hS, hg, k⟩ := h
    refine ⟨_, (pss_one (ps_ret (pe_lc (own := [("step", 1)]) (g := gName 1) (by rfl) sc_steps_from.nd (pi_list (pe_cal C_pairs_of hr rfl pass0 (pa_cons (pe_callB call_len_seq (by rfl) T.len PySem.boot_len (pa_cons (pv 0) pa_nil)) pa_nil))) (blkOk_by (own := [("step", 1)]) (N := ["heaps", "step"]) (sc := defScope s_steps_from) (by decide +kernel)) (fun _ _ _ _ _ => pg_name (i := 1) sc_steps_from.nd rfl (Or.inl rfl)) (fun _ _ _ _ _ => pts_one (pt_val (pe_cal C_can_be_made hr rfl pass0 (pa_cons (pv 0) (pa_cons (pv 1) pa_nil))))) (fun _ _ _ _ _ => (pv 1))))), ?_⟩
    have hl6 := hg
    have s1 : Same H H := Same.refl _
    have S1 := hS
    refine ⟨_, rfl, t, _, rfl, .inr S1, ns.length, by rw [List.length_map], hl6, fun l1 q1 H2 s2 hl1 hQ1 hq1 => ?_⟩
    have S2 := Same.tup s2 S1
    have hD0 : ∀ {D : Addr}, H2 D = none → H D = none := fun {D} z => by
      cases e : H D with
      | none => rfl
      | some o => exact absurd (s2 _ _ e) (by rw [z]; intro q; cases q)
    have hq1l : q1.length ≤ 36 := by
      have e := congrArg List.length hq1
      rw [List.length_map] at e
      rw [e]
      exact prs_short hl6
    refine ⟨l1, rfl, ⟨_, SqL.of hQ1.ls⟩, fun D hD => lc_list (K := K) (a := l1) (xs := q1.map fun p => V.ref p.1) (fun j H3 => PrL K H3 D ns.length ((q1.take j).filter fun p => can ns p.2.1 p.2.2) ∧ Same H2 H3) ⟨⟨upd_same, fun p hp => (nomatch hp)⟩, Same.new hD⟩ (fun j H3 _ q => SqL.of (q.2 _ _ hQ1.ls)) ?_ ?_⟩
    · rintro j x H3 hx ⟨hF, s3⟩
      rw [List.getElem?_map] at hx
      obtain ⟨p, hp, rfl⟩ := Option.map_eq_some_iff.mp hx
      obtain ⟨a1, a2, a3, a4⟩ := hQ1.st p (List.mem_of_getElem? hp)
      have nx : (q1.take (j + 1)).filter (fun p => can ns p.2.1 p.2.2) = (q1.take j).filter (fun p => can ns p.2.1 p.2.2) ++ (if can ns p.2.1 p.2.2 = true then [p] else []) := by
        rw [List.take_add_one, hp, List.filter_append]
        congr 1
        simp only [Option.toList, List.filter_cons, List.filter_nil]
      have fl : ((q1.take j).filter fun p => can ns p.2.1 p.2.2).length ≤ 36 := Nat.le_trans (List.length_filter_le _ _) (by rw [List.length_take]; omega)
      rw [nx]
      refine ⟨rfl, _, rfl, _, rfl, t, p.1, ns, p.2.1, p.2.2, rfl, Same.tup s3 S2, Same.tup s3 a1, a2, a3, _, rfl, ?_⟩
      cases hc : can ns p.2.1 p.2.2 with
      | true =>
        refine iteT ⟨_, rfl, _, hF.ls, ?_, ?_, same_upd s3 hD⟩
        · rw [List.length_map]
          exact Nat.lt_of_le_of_lt fl (by rw [sizeLine_eq]; omega)
        · refine ⟨by rw [upd_same, if_pos rfl, List.map_append]; rfl, fun y hy => ?_⟩
          rw [if_pos rfl] at hy
          rcases List.mem_append.mp hy with hy | hy
          · obtain ⟨b1, b2⟩ := hF.st y hy
            exact ⟨tup_at hF.ls b1, b2⟩
          · have e : y = p := by simpa using hy
            subst e
            exact ⟨tup_at hF.ls (Same.tup s3 a1), a2, a3, a4⟩
      | false =>
        refine iteF ?_
        rw [if_neg (by decide), List.append_nil]
        exact ⟨hF, s3⟩
    · rintro H3 ⟨hF, s3⟩
      rw [List.length_map, List.take_length] at hF
      refine k D _ H3 ((s1.trans s2).trans s3) (hD0 hD) hF ?_
      unfold due
      rw [← hq1, List.filter_map]
      rfl
end
end Hd
set_option maxHeartbeats 2000000
/-! The numbers of two heaps. -/
namespace Hd
/-! ### powers of two -/
theorem two_cop {o : Nat} (ho : o % 2 = 1) (k : Nat) : Nat.Coprime o (2 ^ k) := by
  refine Nat.Coprime.pow_right k ?_
  have h1 : Nat.gcd o 2 ∣ 2 := Nat.gcd_dvd_right _ _
  have h2 : Nat.gcd o 2 ∣ o := Nat.gcd_dvd_left _ _
  have h3 : Nat.gcd o 2 ≤ 2 := Nat.le_of_dvd (by decide) h1
  have h4 : Nat.gcd o 2 ≠ 0 := fun z => by
    rw [z] at h1
    have := Nat.eq_zero_of_zero_dvd h1
    omega
  have h5 : Nat.gcd o 2 ≠ 2 := fun z => by
    rw [z] at h2
    have := Nat.mod_eq_zero_of_dvd h2
    omega
  show Nat.gcd o 2 = 1
  omega
theorem odd_pred {d : Nat} (hd : 0 < d) : (2 ^ d - 1) % 2 = 1 := by
  obtain ⟨e, rfl⟩ : ∃ e, d = e + 1 := ⟨d - 1, by omega⟩
  have : 0 < 2 ^ e := Nat.pow_pos (by decide)
  rw [Nat.pow_succ]
  omega
theorem pow_dvd_pow_mul {t i n : Nat} (hn : n % 2 = 1) : 2 ^ t ∣ 2 ^ i * n ↔ t ≤ i := by
  refine ⟨fun h => ?_, fun h => Nat.dvd_trans (Nat.pow_dvd_pow 2 h) (Nat.dvd_mul_right _ _)⟩
  have h2 : 2 ^ t ∣ 2 ^ i := Nat.Coprime.dvd_of_dvd_mul_right (Nat.Coprime.symm (two_cop hn t)) h
  exact (Nat.pow_dvd_pow_iff_le_right (by decide)).mp h2
theorem part_dvd {o t i n : Nat} (ho : o % 2 = 1) (hn : n % 2 = 1) : o * 2 ^ t ∣ 2 ^ i * n ↔ t ≤ i ∧ o ∣ n := by
  constructor
  · intro h
    refine ⟨(pow_dvd_pow_mul hn).mp (Nat.dvd_trans (Nat.dvd_mul_left _ _) h), ?_⟩
    exact Nat.Coprime.dvd_of_dvd_mul_left (two_cop ho i) (Nat.dvd_trans (Nat.dvd_mul_right _ _) h)
  · rintro ⟨h1, h2⟩
    rw [Nat.mul_comm]
    exact Nat.mul_dvd_mul (Nat.pow_dvd_pow 2 h1) h2
theorem part_pow {o t k : Nat} (ho : o % 2 = 1) : o * 2 ^ t ∣ 2 ^ k ↔ o = 1 ∧ t ≤ k := by
  have e := part_dvd (o := o) (t := t) (i := k) (n := 1) ho (by decide)
  rw [Nat.mul_one] at e
  rw [e]
  constructor
  · rintro ⟨h1, h2⟩
    exact ⟨Nat.eq_one_of_dvd_one h2, h1⟩
  · rintro ⟨h1, h2⟩
    exact ⟨h2, by rw [h1]; exact Nat.dvd_refl 1⟩
theorem part_one {o t o' t' : Nat} (ho : o % 2 = 1) (ho' : o' % 2 = 1) (h : o * 2 ^ t = o' * 2 ^ t') : o = o' ∧ t = t' := by
  have a1 : t ≤ t' := by
    have z : 2 ^ t ∣ 2 ^ t' * o' := by
      rw [Nat.mul_comm, ← h]
      exact Nat.dvd_mul_left _ _
    exact (pow_dvd_pow_mul ho').mp z
  have a2 : t' ≤ t := by
    have z : 2 ^ t' ∣ 2 ^ t * o := by
      rw [Nat.mul_comm, h]
      exact Nat.dvd_mul_left _ _
    exact (pow_dvd_pow_mul ho).mp z
  have e : t = t' := by omega
  subst e
  exact ⟨Nat.eq_of_mul_eq_mul_right (Nat.pow_pos (by decide)) h, rfl⟩
/-! ### two heaps -/
theorem both_mod (a b k : Nat) : ((2 ^ k * a) % (a + b) + (2 ^ k * b) % (a + b)) % (a + b) = 0 := by
  rw [← Nat.add_mod, ← Nat.mul_add, Nat.mul_mod_left]
/-- the odd part and the twos of the reduced sum -/
structure Par (a b o t : Nat) : Prop where
  pos : 0 < a + b
  eq : (a + b) / Nat.gcd a b = o * 2 ^ t
  odd : o % 2 = 1
theorem Par.one {a b o t o' t' : Nat} (p : Par a b o t) (q : Par a b o' t') : o = o' ∧ t = t' := part_one p.odd q.odd (p.eq.symm.trans q.eq)
section
variable {a b o t : Nat} (p : Par a b o t)
include p
theorem Par.gpos : 0 < Nat.gcd a b := Nat.gcd_pos_iff.mpr (by have := p.pos; omega)
theorem Par.sum : a + b = Nat.gcd a b * (o * 2 ^ t) := by
  rw [← p.eq]
  exact (Nat.mul_div_cancel' (Nat.dvd_add (Nat.gcd_dvd_left a b) (Nat.gcd_dvd_right a b))).symm
theorem Par.dvd (x : Nat) : a + b ∣ x * a ↔ o * 2 ^ t ∣ x := by
  have g0 := p.gpos
  obtain ⟨a', ha⟩ := Nat.gcd_dvd_left a b
  obtain ⟨b', hb⟩ := Nat.gcd_dvd_right a b
  have hs := p.sum
  have hc : Nat.Coprime a' b' := by
    have e : Nat.gcd a b * Nat.gcd a' b' = Nat.gcd a b * 1 := by
      rw [← Nat.gcd_mul_left, ← ha, ← hb, Nat.mul_one]
    exact Nat.eq_of_mul_eq_mul_left g0 e
  have hr : o * 2 ^ t = a' + b' := by
    have e : Nat.gcd a b * (o * 2 ^ t) = Nat.gcd a b * (a' + b') := by
      rw [← hs, Nat.mul_add, ← ha, ← hb]
    exact Nat.eq_of_mul_eq_mul_left g0 e
  have hc2 : Nat.Coprime (a' + b') a' := by
    show Nat.gcd (a' + b') a' = 1
    rw [Nat.gcd_comm, Nat.gcd_self_add_right]
    exact hc
  constructor
  · intro h
    have h' : Nat.gcd a b * (o * 2 ^ t) ∣ Nat.gcd a b * (x * a') := by
      rw [← hs]
      have e : Nat.gcd a b * (x * a') = x * a := by
        rw [Nat.mul_left_comm, ← ha]
      rw [e]
      exact h
    have h2 := Nat.dvd_of_mul_dvd_mul_left g0 h'
    rw [hr] at h2 ⊢
    exact Nat.Coprime.dvd_of_dvd_mul_right hc2 h2
  · intro h
    rw [hs]
    have e : x * a = Nat.gcd a b * (x * a') := by
      rw [Nat.mul_left_comm, ← ha]
    rw [e]
    exact Nat.mul_dvd_mul_left _ (Nat.dvd_trans h (Nat.dvd_mul_right _ _))
/-- one heap is empty behind k steps -/
theorem Par.zero (k : Nat) : (2 ^ k * a) % (a + b) = 0 ↔ o = 1 ∧ t ≤ k := by
  rw [← part_pow p.odd, ← p.dvd (2 ^ k)]
  exact ⟨Nat.dvd_of_mod_eq_zero, Nat.mod_eq_zero_of_dvd⟩
theorem Par.zero' (k : Nat) : (2 ^ k * b) % (a + b) = 0 ↔ o = 1 ∧ t ≤ k := by
  rw [← p.zero k]
  have s0 := p.pos
  have h := both_mod a b k
  have l1 := Nat.mod_lt (2 ^ k * a) s0
  have l2 := Nat.mod_lt (2 ^ k * b) s0
  constructor
  · intro e
    rw [e, Nat.add_zero, Nat.mod_eq_of_lt l1] at h
    exact h
  · intro e
    rw [e, Nat.zero_add, Nat.mod_eq_of_lt l2] at h
    exact h
end
/-- where the walk is behind k steps -/
def wpos (a b o t k : Nat) : Nat × Nat := if o = 1 ∧ t ≤ k then (if t = 0 then (a, b) else (0, a + b)) else ((2 ^ k * a) % (a + b), (2 ^ k * b) % (a + b))
def nxt (x y : Nat) : Nat × Nat := if y ≤ x then (x - y, 2 * y) else (2 * x, y - x)
section
variable {a b o t : Nat} (p : Par a b o t)
include p
theorem Par.live {k : Nat} (h : ¬ (o = 1 ∧ t ≤ k)) : wpos a b o t k = ((2 ^ k * a) % (a + b), (2 ^ k * b) % (a + b)) ∧ 0 < (2 ^ k * a) % (a + b) ∧ 0 < (2 ^ k * b) % (a + b) ∧ (2 ^ k * a) % (a + b) + (2 ^ k * b) % (a + b) = a + b := by
  have s0 := p.pos
  have z1 : (2 ^ k * a) % (a + b) ≠ 0 := fun z => h ((p.zero k).mp z)
  have z2 : (2 ^ k * b) % (a + b) ≠ 0 := fun z => h ((p.zero' k).mp z)
  have hm := both_mod a b k
  have l1 := Nat.mod_lt (2 ^ k * a) s0
  have l2 := Nat.mod_lt (2 ^ k * b) s0
  refine ⟨if_neg h, by omega, by omega, ?_⟩
  by_cases hlt : (2 ^ k * a) % (a + b) + (2 ^ k * b) % (a + b) < a + b
  · rw [Nat.mod_eq_of_lt hlt] at hm
    omega
  · have e : ((2 ^ k * a) % (a + b) + (2 ^ k * b) % (a + b) - (a + b)) % (a + b) = 0 := by
      rw [Nat.mod_eq_sub_mod (by omega)] at hm
      exact hm
    rw [Nat.mod_eq_of_lt (by omega)] at e
    omega
theorem Par.start : wpos a b o t 0 = (a, b) := by
  unfold wpos
  by_cases h : o = 1 ∧ t ≤ 0
  · rw [if_pos h, if_pos (by omega)]
  · obtain ⟨e, h1, h2, h3⟩ := p.live h
    rw [if_neg h]
    simp only [Nat.pow_zero, Nat.one_mul] at h1 h2 h3 ⊢
    have ha : a ≠ a + b := fun z => by
      rw [← z, Nat.mod_self] at h1
      omega
    have hb : b ≠ a + b := fun z => by
      rw [← z, Nat.mod_self] at h2
      omega
    rw [Nat.mod_eq_of_lt (by omega), Nat.mod_eq_of_lt (by omega)]
theorem Par.ended {k : Nat} (h : o = 1 ∧ t ≤ k) : wpos a b o t k = (if t = 0 then (a, b) else (0, a + b)) ∧ ((wpos a b o t k).1 = 0 ∨ (wpos a b o t k).2 = 0) ∧ (wpos a b o t k).1 + (wpos a b o t k).2 = a + b := by
  have e : wpos a b o t k = (if t = 0 then (a, b) else (0, a + b)) := if_pos h
  refine ⟨e, ?_, ?_⟩
  · rw [e]
    by_cases ht : t = 0
    · rw [if_pos ht]
      have z := (p.zero 0).mpr ⟨h.1, by omega⟩
      rw [Nat.pow_zero, Nat.one_mul] at z
      have s0 := p.pos
      by_cases hb : b = 0
      · exact .inr hb
      · rw [Nat.mod_eq_of_lt (by omega)] at z
        exact .inl z
    · rw [if_neg ht]
      exact .inl rfl
  · rw [e]
    by_cases ht : t = 0
    · rw [if_pos ht]
    · rw [if_neg ht]
      exact Nat.zero_add _
theorem Par.step {k : Nat} (h : ¬ (o = 1 ∧ t ≤ k)) : nxt (wpos a b o t k).1 (wpos a b o t k).2 = wpos a b o t (k + 1) := by
  obtain ⟨e, h1, h2, h3⟩ := p.live h
  have d1 : (2 ^ (k + 1) * a) % (a + b) = (2 * ((2 ^ k * a) % (a + b))) % (a + b) := by
    rw [Nat.pow_succ, Nat.mul_comm (2 ^ k) 2, Nat.mul_assoc, Nat.mul_mod_mod]
  have d2 : (2 ^ (k + 1) * b) % (a + b) = (2 * ((2 ^ k * b) % (a + b))) % (a + b) := by
    rw [Nat.pow_succ, Nat.mul_comm (2 ^ k) 2, Nat.mul_assoc, Nat.mul_mod_mod]
  rw [e]
  have z1 := p.zero (k + 1)
  have e1 : wpos a b o t (k + 1) = if o = 1 ∧ t ≤ k + 1 then (if t = 0 then (a, b) else (0, a + b)) else ((2 ^ (k + 1) * a) % (a + b), (2 ^ (k + 1) * b) % (a + b)) := rfl
  rw [e1, d1, d2]
  rw [d1] at z1
  generalize (2 ^ k * a) % (a + b) = x at *
  generalize (2 ^ k * b) % (a + b) = y at *
  unfold nxt
  show (if y ≤ x then (x - y, 2 * y) else (2 * x, y - x)) = _
  have big : ∀ u v : Nat, 0 < v → v < u → u + v = a + b → (2 * u) % (a + b) = u - v := fun u v g0 g q => by
    rw [Nat.mod_eq_sub_mod (by omega), Nat.mod_eq_of_lt (by omega)]
    omega
  by_cases hxy : x = y
  · have z : (2 * x) % (a + b) = 0 := by
      have : 2 * x = a + b := by omega
      rw [this, Nat.mod_self]
    have en := z1.mp z
    rw [if_pos (by omega), if_pos en, if_neg (by omega)]
    rw [hxy] at h3 ⊢
    congr 1
    · omega
    · omega
  · have nz : (2 * x) % (a + b) ≠ 0 := by
      by_cases g : y < x
      · rw [big x y h2 g h3]
        omega
      · rw [Nat.mod_eq_of_lt (by omega)]
        omega
    rw [if_neg (show ¬ (o = 1 ∧ t ≤ k + 1) from fun q => nz (z1.mpr q))]
    by_cases g : y < x
    · rw [if_pos (by omega), big x y h2 g h3, Nat.mod_eq_of_lt (show 2 * y < a + b by omega)]
    · rw [if_neg (by omega), big y x h1 (by omega) (by omega), Nat.mod_eq_of_lt (show 2 * x < a + b by omega)]
theorem Par.still {k : Nat} (h : o = 1 ∧ t ≤ k) : wpos a b o t (k + 1) = wpos a b o t k := by
  rw [(p.ended h).1, (p.ended ⟨h.1, Nat.le_succ_of_le h.2⟩).1]
theorem Par.at_end {k : Nat} (h : o = 1 ∧ t ≤ k) : wpos a b o t k = wpos a b o t t := by
  rw [(p.ended h).1, (p.ended ⟨h.1, Nat.le_refl t⟩).1]
theorem Par.sum_pos (k : Nat) : (wpos a b o t k).1 + (wpos a b o t k).2 = a + b := by
  by_cases h : o = 1 ∧ t ≤ k
  · exact (p.ended h).2.2
  · obtain ⟨e, h1, h2, h3⟩ := p.live h
    rw [e]
    exact h3
/-- the same heaps again -/
theorem Par.again {x d : Nat} (hd : 0 < d) (i : Nat) (hx : x = (2 ^ i * a) % (a + b)) : (2 ^ (i + d) * a) % (a + b) = x ↔ t ≤ i ∧ o ∣ 2 ^ d - 1 := by
  subst hx
  rw [← part_dvd p.odd (odd_pred hd), ← p.dvd]
  have hp : 0 < 2 ^ d := Nat.pow_pos (by decide)
  have e : 2 ^ (i + d) * a = 2 ^ i * a + 2 ^ i * (2 ^ d - 1) * a := by
    rw [← Nat.add_mul, Nat.pow_add]
    congr 1
    have : 2 ^ d = 1 + (2 ^ d - 1) := by omega
    rw (occs := [1]) [this]
    rw [Nat.mul_add, Nat.mul_one]
  rw [e]
  generalize 2 ^ i * a = u
  generalize 2 ^ i * (2 ^ d - 1) * a = v
  generalize hs : a + b = s
  have s0 : 0 < s := by rw [← hs]; exact p.pos
  constructor
  · intro h
    have := Nat.sub_mod_eq_zero_of_mod_eq h
    rw [Nat.add_sub_cancel_left] at this
    exact Nat.dvd_of_mod_eq_zero this
  · rintro ⟨q, rfl⟩
    exact Nat.add_mul_mod_self_left _ _ _
end
/-- the least number of doublings that comes back -/
structure Ord (o k : Nat) : Prop where
  pos : 0 < k
  yes : o ∣ 2 ^ k - 1
  no : ∀ j, 0 < j → j < k → ¬ o ∣ 2 ^ j - 1
theorem ord_some {o : Nat} (ho : o % 2 = 1) : ∃ k, k ≤ o ∧ Ord o k := by
  have hpos : 0 < o := by omega
  -- pigeons
  have two : ∃ i j, i < j ∧ j ≤ o ∧ 2 ^ i % o = 2 ^ j % o := by
    refine Classical.byContradiction fun hn => ?_
    have inj : ∀ i j, i ≤ o → j ≤ o → 2 ^ i % o = 2 ^ j % o → i = j := fun i j hi hj e => by
      rcases Nat.lt_trichotomy i j with h | h | h
      · exact absurd ⟨i, j, h, hj, e⟩ hn
      · exact h
      · exact absurd ⟨j, i, h, hi, e.symm⟩ hn
    have nd : ((List.range (o + 1)).map fun i => 2 ^ i % o).Nodup := by
      refine List.pairwise_map.mpr (List.Pairwise.imp_of_mem (fun {x y} hx hy hxy e => ?_) (List.nodup_range (n := o + 1)))
      exact hxy (inj x y (by have := List.mem_range.mp hx; omega) (by have := List.mem_range.mp hy; omega) e)
    have le := L2.nat_nodup_len _ (List.range o) nd fun x hx => by
      obtain ⟨i, _, rfl⟩ := List.mem_map.mp hx
      exact List.mem_range.mpr (Nat.mod_lt _ hpos)
    rw [List.length_map, List.length_range, List.length_range] at le
    omega
  obtain ⟨i, j, hij, hj, e⟩ := two
  have hd : o ∣ 2 ^ (j - i) - 1 := by
    have h1 := Nat.sub_mod_eq_zero_of_mod_eq e.symm
    have h2 : 2 ^ j - 2 ^ i = 2 ^ i * (2 ^ (j - i) - 1) := by
      rw [Nat.mul_sub, Nat.mul_one, ← Nat.pow_add, Nat.add_sub_cancel' (Nat.le_of_lt hij)]
    rw [h2] at h1
    exact Nat.Coprime.dvd_of_dvd_mul_left (two_cop ho i) (Nat.dvd_of_mod_eq_zero h1)
  have least : ∀ n, (0 < n ∧ o ∣ 2 ^ n - 1) → ∃ k, k ≤ n ∧ Ord o k := by
    intro n
    induction n using Nat.strongRecOn with
    | _ n ih =>
      rintro ⟨h0, h1⟩
      by_cases hm : ∃ m, m < n ∧ 0 < m ∧ o ∣ 2 ^ m - 1
      · obtain ⟨m, a1, a2, a3⟩ := hm
        obtain ⟨k, b1, b2⟩ := ih m a1 ⟨a2, a3⟩
        exact ⟨k, by omega, b2⟩
      · exact ⟨n, Nat.le_refl _, h0, h1, fun j c1 c2 c3 => hm ⟨j, c2, c1, c3⟩⟩
  obtain ⟨k, h1, h2⟩ := least (j - i) ⟨by omega, hd⟩
  exact ⟨k, by omega, h2⟩
theorem Ord.one {o k k' : Nat} (x : Ord o k) (y : Ord o k') : k = k' := by
  rcases Nat.lt_trichotomy k k' with h | h | h
  · exact absurd x.yes (y.no k x.pos h)
  · exact h
  · exact absurd y.yes (x.no k' y.pos h)
theorem mod_one_dvd {o k : Nat} (ho : 1 < o) : 2 ^ k % o = 1 % o ↔ o ∣ 2 ^ k - 1 := by
  have hp : 0 < 2 ^ k := Nat.pow_pos (by decide)
  constructor
  · intro h
    exact Nat.dvd_of_mod_eq_zero (Nat.sub_mod_eq_zero_of_mod_eq h)
  · rintro ⟨q, hq⟩
    have e : 2 ^ k = 1 + o * q := by omega
    rw [e]
    exact Nat.add_mul_mod_self_left _ _ _
theorem twos_some : ∀ n : Nat, 0 < n → ∃ o t, n = o * 2 ^ t ∧ o % 2 = 1 := by
  intro n
  induction n using Nat.strongRecOn with
  | _ n ih =>
    intro h
    by_cases he : n % 2 = 1
    · exact ⟨n, 0, by simp, he⟩
    · obtain ⟨o, t, e, ho⟩ := ih (n / 2) (by omega) (by omega)
      refine ⟨o, t + 1, ?_, ho⟩
      have : n = n / 2 * 2 := by omega
      rw [this, e, Nat.pow_succ, Nat.mul_assoc]
theorem par_some {a b : Nat} (h : 0 < a + b) : ∃ o t, Par a b o t := by
  have g0 : 0 < Nat.gcd a b := Nat.gcd_pos_iff.mpr (by omega)
  have hd : Nat.gcd a b ∣ a + b := Nat.dvd_add (Nat.gcd_dvd_left a b) (Nat.gcd_dvd_right a b)
  obtain ⟨o, t, e, ho⟩ := twos_some ((a + b) / Nat.gcd a b) (Nat.div_pos (Nat.le_of_dvd h hd) g0)
  exact ⟨o, t, h, e, ho⟩
theorem twos_small {n o t k : Nat} (h : n = o * 2 ^ t) (ho : 0 < o) (hn : n < 2 ^ k) : t < k := by
  refine Nat.lt_of_not_le fun z => ?_
  have h1 : 2 ^ k ≤ 2 ^ t := Nat.pow_le_pow_right (by decide) z
  have h2 : 2 ^ t ≤ o * 2 ^ t := Nat.le_mul_of_pos_left _ ho
  omega
theorem Par.small {a b o t k : Nat} (p : Par a b o t) (h : a + b < 2 ^ k) : t < k ∧ o < 2 ^ k := by
  have ho : 0 < o := by have := p.odd; omega
  have hle : (a + b) / Nat.gcd a b ≤ a + b := Nat.div_le_self _ _
  have e := p.eq
  refine ⟨twos_small e ho (by omega), ?_⟩
  have : o ≤ o * 2 ^ t := Nat.le_mul_of_pos_right _ (Nat.pow_pos (by decide))
  omega
/-- an empty heap: the walk has ended -/
theorem Par.empty {a b o t : Nat} (p : Par a b o t) (h : a = 0 ∨ b = 0) : o = 1 ∧ t = 0 := by
  have e := p.eq
  have s0 := p.pos
  have e1 : (a + b) / Nat.gcd a b = 1 := by
    rcases h with h | h
    · subst h
      rw [Nat.gcd_zero_left, Nat.zero_add]
      exact Nat.div_self (by omega)
    · subst h
      rw [Nat.gcd_zero_right, Nat.add_zero]
      exact Nat.div_self (by omega)
  rw [e1] at e
  have q := part_one (o := 1) (t := 0) (by decide) p.odd (by rw [← e])
  exact ⟨q.1.symm, q.2.symm⟩
theorem Par.full {a b o t : Nat} (p : Par a b o t) (h : a ≠ 0 ∧ b ≠ 0) (ho : o = 1) : t ≠ 0 := fun ht => by
  have z := (p.zero 0).mpr ⟨ho, by omega⟩
  rw [Nat.pow_zero, Nat.one_mul, Nat.mod_eq_of_lt (by omega)] at z
  omega
end Hd
set_option maxHeartbeats 4000000
/-! Counting: those prime to a number, the divisors' classes, the powers of two by an odd number. -/
namespace Hd
/-- how many below n -/
def cnt (n : Nat) (p : Nat → Bool) : Nat := (List.range n).countP p
theorem cnt_zero (p : Nat → Bool) : cnt 0 p = 0 := rfl
theorem cnt_succ (n : Nat) (p : Nat → Bool) : cnt (n + 1) p = cnt n p + if p n = true then 1 else 0 := by
  unfold cnt
  rw [List.range_succ, List.countP_append, List.countP_cons, List.countP_nil, Nat.zero_add]
theorem cnt_congr {n : Nat} {p q : Nat → Bool} (h : ∀ x, x < n → p x = q x) : cnt n p = cnt n q := by
  induction n with
  | zero => rfl
  | succ n ih => rw [cnt_succ, cnt_succ, ih fun x hx => h x (by omega), h n (by omega)]
theorem cnt_add (a b : Nat) (p : Nat → Bool) : cnt (a + b) p = cnt a p + cnt b fun y => p (a + y) := by
  induction b with
  | zero => rw [cnt_zero, Nat.add_zero, Nat.add_zero]
  | succ b ih => rw [← Nat.add_assoc, cnt_succ, cnt_succ, ih, Nat.add_assoc]
theorem cnt_split (n : Nat) (p q : Nat → Bool) : cnt n p = cnt n (fun x => p x && q x) + cnt n fun x => p x && !q x := by
  induction n with
  | zero => rfl
  | succ n ih =>
    rw [cnt_succ, cnt_succ, cnt_succ, ih]
    cases p n <;> cases q n <;> simp <;> omega
theorem cnt_none {n : Nat} {p : Nat → Bool} (h : ∀ x, x < n → p x = false) : cnt n p = 0 := by
  induction n with
  | zero => rfl
  | succ n ih => rw [cnt_succ, ih fun x hx => h x (by omega), h n (by omega), if_neg (by decide)]
theorem cnt_mul {g : Nat} (hg : 0 < g) (m : Nat) (p : Nat → Bool) : cnt (g * m) (fun x => decide (g ∣ x) && p (x / g)) = cnt m p := by
  induction m with
  | zero => rfl
  | succ m ih =>
    rw [Nat.mul_succ, cnt_add, ih, cnt_succ]
    congr 1
    obtain ⟨k, rfl⟩ : ∃ k, g = k + 1 := ⟨g - 1, by omega⟩
    rw [show k + 1 = 1 + k by omega, cnt_add, cnt_succ, cnt_zero, Nat.zero_add, cnt_none, Nat.add_zero]
    · rw [Nat.add_zero, decide_eq_true (Nat.dvd_mul_right _ _), Bool.true_and, Nat.mul_div_cancel_left _ (by omega)]
    · intro x hx
      rw [decide_eq_false, Bool.false_and]
      intro hd
      have := (Nat.dvd_add_right (Nat.dvd_mul_right (1 + k) m)).mp hd
      have := Nat.le_of_dvd (by omega) this
      omega
theorem cnt_period {a : Nat} {p : Nat → Bool} (h : ∀ x, p (a + x) = p x) : ∀ m, cnt (m * a) p = m * cnt a p
  | 0 => by rw [Nat.zero_mul, Nat.zero_mul, cnt_zero]
  | m + 1 => by
    rw [Nat.succ_mul, Nat.add_comm (m * a), cnt_add, cnt_congr (fun x _ => h x), cnt_period h m, Nat.succ_mul, Nat.add_comm]
/-- how many below d are prime to it -/
def phi (d : Nat) : Nat := cnt d fun y => decide (Nat.gcd y d = 1)
theorem phi_one : phi 1 = 1 := by decide
theorem cop_period (a x : Nat) : decide (Nat.gcd (a + x) a = 1) = decide (Nat.gcd x a = 1) := by
  have e : Nat.gcd (a + x) a = Nat.gcd x a := by rw [Nat.gcd_comm, Nat.gcd_self_add_right, Nat.gcd_comm]
  simp only [e]
theorem phi_grow {a f k : Nat} (hpr : ∀ x, Nat.gcd x f = 1 ∨ f ∣ x) (hf : 2 ≤ f) (hfa : Nat.gcd f a = 1) : phi (a * f ^ (k + 1)) + f ^ k * phi a = f ^ (k + 1) * phi a := by
  have e1 : cnt (f ^ (k + 1) * a) (fun x => decide (Nat.gcd x a = 1)) = f ^ (k + 1) * phi a := cnt_period (cop_period a) _
  have e2 := cnt_split (f ^ (k + 1) * a) (fun x => decide (Nat.gcd x a = 1)) fun x => decide (f ∣ x)
  have e3 : cnt (f ^ (k + 1) * a) (fun x => decide (Nat.gcd x a = 1) && !decide (f ∣ x)) = phi (a * f ^ (k + 1)) := by
    unfold phi
    rw [Nat.mul_comm]
    refine cnt_congr fun x _ => ?_
    rw [Bool.eq_iff_iff]
    simp only [Bool.and_eq_true, decide_eq_true_eq, Bool.not_eq_true', decide_eq_false_iff_not]
    constructor
    · rintro ⟨h1, h2⟩
      have h3 : Nat.gcd x f = 1 := (hpr x).resolve_right h2
      exact Nat.Coprime.mul_right h1 (Nat.Coprime.pow_right _ h3)
    · intro h
      refine ⟨Nat.Coprime.coprime_mul_right_right h, fun hd => ?_⟩
      have h2 : Nat.Coprime x (f ^ (k + 1)) := Nat.Coprime.coprime_mul_left_right h
      rw [Nat.pow_succ] at h2
      have h3 : Nat.Coprime x f := Nat.Coprime.coprime_mul_left_right h2
      have h4 : f ∣ Nat.gcd x f := Nat.dvd_gcd hd (Nat.dvd_refl f)
      rw [h3] at h4
      have := Nat.le_of_dvd (by decide) h4
      omega
  have e4 : cnt (f ^ (k + 1) * a) (fun x => decide (Nat.gcd x a = 1) && decide (f ∣ x)) = f ^ k * phi a := by
    have : f ^ (k + 1) * a = f * (f ^ k * a) := by rw [Nat.pow_succ, Nat.mul_comm (f ^ k), Nat.mul_assoc]
    show _ = f ^ k * cnt a fun y => decide (Nat.gcd y a = 1)
    rw [this, ← cnt_period (a := a) (p := fun y => decide (Nat.gcd y a = 1)) (cop_period a) (f ^ k), ← cnt_mul (show 0 < f by omega) (f ^ k * a)]
    refine cnt_congr fun x _ => ?_
    by_cases hd : f ∣ x
    · rw [decide_eq_true hd, Bool.and_true, Bool.true_and]
      obtain ⟨y, rfl⟩ := hd
      have e := Nat.Coprime.gcd_mul_left_cancel y hfa
      rw [Nat.mul_div_cancel_left _ (by omega)]
      simp only [e]
    · rw [decide_eq_false hd, Bool.and_false, Bool.false_and]
  omega
/-- so many have this quotient -/
theorem phi_class {n d : Nat} (hn : 0 < n) (hd : d ∣ n) : cnt n (fun x => decide (n / Nat.gcd x n = d)) = phi d := by
  obtain ⟨g, rfl⟩ := hd
  have d0 : 0 < d := Nat.pos_of_mul_pos_right hn
  have g0 : 0 < g := Nat.pos_of_mul_pos_left hn
  rw [Nat.mul_comm d g]
  unfold phi
  rw [← cnt_mul g0 d]
  refine cnt_congr fun x _ => ?_
  rw [Bool.eq_iff_iff]
  simp only [Bool.and_eq_true, decide_eq_true_eq]
  constructor
  · intro h
    have h1 : Nat.gcd x (g * d) ∣ g * d := Nat.gcd_dvd_right _ _
    have h2 := Nat.div_mul_cancel h1
    rw [h] at h2
    have h3 : Nat.gcd x (g * d) = g := Nat.eq_of_mul_eq_mul_left d0 (by rw [h2, Nat.mul_comm])
    have h4 : g ∣ x := by
      rw [← h3]
      exact Nat.gcd_dvd_left _ _
    obtain ⟨y, rfl⟩ := h4
    refine ⟨Nat.dvd_mul_right _ _, ?_⟩
    rw [Nat.mul_div_cancel_left _ g0]
    rw [Nat.gcd_mul_left] at h3
    exact Nat.eq_of_mul_eq_mul_left g0 (by rw [h3, Nat.mul_one])
  · rintro ⟨⟨y, rfl⟩, h⟩
    rw [Nat.mul_div_cancel_left _ g0] at h
    rw [Nat.gcd_mul_left, h, Nat.mul_one, Nat.mul_div_cancel_left _ g0]
/-- a sum over l told by classes -/
theorem sum_pick {D : List Nat} (h : D.Nodup) (f : Nat → Nat) (y : Nat) : (D.map fun d => f d * if y = d then 1 else 0).sum = if y ∈ D then f y else 0 := by
  induction D with
  | nil => rfl
  | cons d D ih =>
    obtain ⟨h1, h2⟩ := List.nodup_cons.mp h
    rw [List.map_cons, List.sum_cons, ih h2]
    by_cases e : y = d
    · subst e
      rw [if_pos rfl, if_neg h1, if_pos List.mem_cons_self]
      omega
    · rw [if_neg e, Nat.mul_zero, Nat.zero_add]
      by_cases m : y ∈ D
      · rw [if_pos m, if_pos (List.mem_cons_of_mem _ m)]
      · rw [if_neg m, if_neg fun z => (List.mem_cons.mp z).elim e m]
theorem sum_part {D : List Nat} (hD : D.Nodup) (f g : Nat → Nat) : ∀ {l : List Nat}, (∀ x ∈ l, f (g x) ≠ 0 → g x ∈ D) → (l.map fun x => f (g x)).sum = (D.map fun d => f d * l.countP fun x => decide (g x = d)).sum
  | [], _ => by
    rw [List.map_nil, List.sum_nil]
    have : ∀ D : List Nat, (D.map fun d => f d * ([] : List Nat).countP fun x => decide (g x = d)).sum = 0 := fun D => by
      induction D with
      | nil => rfl
      | cons d D ih => rw [List.map_cons, List.sum_cons, ih, List.countP_nil, Nat.mul_zero]
    exact (this D).symm
  | x :: l, h => by
    have ih := sum_part hD f g (l := l) fun y hy => h y (List.mem_cons_of_mem _ hy)
    rw [List.map_cons, List.sum_cons, ih]
    have e : ∀ D : List Nat, (D.map fun d => f d * (x :: l).countP fun x => decide (g x = d)).sum = (D.map fun d => f d * if g x = d then 1 else 0).sum + (D.map fun d => f d * l.countP fun x => decide (g x = d)).sum := fun D => by
      induction D with
      | nil => rfl
      | cons d D ih =>
        simp only [List.map_cons, List.sum_cons]
        rw [ih, List.countP_cons, Nat.mul_add]
        simp only [decide_eq_true_eq]
        omega
    rw [e, sum_pick hD]
    by_cases m : g x ∈ D
    · rw [if_pos m]
    · rw [if_neg m]
      have : f (g x) = 0 := Classical.byContradiction fun z => m (h x List.mem_cons_self z)
      rw [this]
/-! ### the powers of two -/
def prodL : List Nat → Nat
  | [] => 1
  | x :: r => x * prodL r
theorem prodL_perm {l m : List Nat} (h : l.Perm m) : prodL l = prodL m := by
  induction h with
  | nil => rfl
  | cons x _ ih => rw [prodL, prodL, ih]
  | swap x y l => rw [prodL, prodL, prodL, prodL, Nat.mul_left_comm]
  | trans _ _ a b => rw [a, b]
theorem prodL_cop {d : Nat} : ∀ {l : List Nat}, (∀ x ∈ l, Nat.gcd x d = 1) → Nat.gcd (prodL l) d = 1
  | [], _ => Nat.gcd_one_left d
  | x :: l, h => Nat.Coprime.mul_left (h x List.mem_cons_self) (prodL_cop fun y hy => h y (List.mem_cons_of_mem _ hy))
theorem prodL_two {d : Nat} : ∀ l : List Nat, prodL (l.map fun u => 2 * u % d) % d = (2 ^ l.length * prodL l) % d
  | [] => rfl
  | x :: l => by
    rw [List.map_cons, prodL, prodL, List.length_cons, Nat.mul_mod, prodL_two l, Nat.mod_mod, ← Nat.mul_mod, Nat.pow_succ]
    congr 1
    rw [Nat.mul_assoc, Nat.mul_assoc, Nat.mul_left_comm, Nat.mul_left_comm x, ← Nat.mul_assoc 2]
    rw [Nat.mul_left_comm, Nat.mul_assoc 2]
theorem euler_two {d : Nat} (hd : d % 2 = 1) : d ∣ 2 ^ phi d - 1 := by
  by_cases h1 : d = 1
  · subst h1
    exact Nat.one_dvd _
  have hd1 : 1 < d := by omega
  have U_ : ∃ U : List Nat, U = (List.range d).filter fun y => decide (Nat.gcd y d = 1) := ⟨_, rfl⟩
  obtain ⟨U, hU⟩ := U_
  have mU : ∀ x, x ∈ U ↔ x < d ∧ Nat.gcd x d = 1 := fun x => by rw [hU, List.mem_filter, List.mem_range, decide_eq_true_eq]
  have nU : U.Nodup := by rw [hU]; exact List.Pairwise.filter _ List.nodup_range
  have lU : U.length = phi d := by rw [hU, ← List.countP_eq_length_filter]; rfl
  have c2 : Nat.gcd 2 d = 1 := by
    have := two_cop hd 1
    rw [Nat.pow_one] at this
    exact Nat.Coprime.symm this
  have half : 2 * ((d + 1) / 2) = d + 1 := by omega
  have inj : ∀ x y, x < d → y < d → 2 * x % d = 2 * y % d → x = y := fun x y hx hy h => by
    have h1 : (2 * x * ((d + 1) / 2)) % d = (2 * y * ((d + 1) / 2)) % d := by rw [Nat.mul_mod, h, ← Nat.mul_mod]
    have e : ∀ z, 2 * z * ((d + 1) / 2) = z + d * z := fun z => by
      rw [Nat.mul_comm 2, Nat.mul_assoc, half, Nat.mul_add, Nat.mul_one, Nat.add_comm, Nat.mul_comm]
    rw [e, e, Nat.add_mul_mod_self_left, Nat.add_mul_mod_self_left, Nat.mod_eq_of_lt hx, Nat.mod_eq_of_lt hy] at h1
    exact h1
  have nM : (U.map fun u => 2 * u % d).Nodup := by
    rw [List.nodup_iff_pairwise_ne, List.pairwise_map]
    refine List.Pairwise.imp_of_mem (fun {a b} ha hb hab e => ?_) (List.nodup_iff_pairwise_ne.mp nU)
    exact hab (inj a b ((mU a).mp ha).1 ((mU b).mp hb).1 e)
  have cop : ∀ x k, Nat.gcd x d = 1 → Nat.gcd k d = 1 → Nat.gcd (k * x % d) d = 1 := fun x k h hk => by
    rw [← Nat.gcd_rec, Nat.gcd_comm]
    exact Nat.Coprime.mul_left hk h
  have P : (U.map fun u => 2 * u % d).Perm U := by
    refine (List.perm_ext_iff_of_nodup nM nU).mpr fun a => ?_
    rw [List.mem_map, mU]
    constructor
    · rintro ⟨u, hu, rfl⟩
      exact ⟨Nat.mod_lt _ (by omega), cop u 2 ((mU u).mp hu).2 c2⟩
    · rintro ⟨h1, h2⟩
      have ch : Nat.gcd ((d + 1) / 2) d = 1 := by
        have : Nat.gcd ((d + 1) / 2) d ∣ 1 := by
          have a1 : Nat.gcd ((d + 1) / 2) d ∣ d + 1 := by
            exact Nat.dvd_trans (Nat.gcd_dvd_left _ _) ⟨2, by omega⟩
          exact (Nat.dvd_add_right (Nat.gcd_dvd_right _ _)).mp a1
        exact Nat.dvd_one.mp this
      refine ⟨(d + 1) / 2 * a % d, (mU _).mpr ⟨Nat.mod_lt _ (by omega), cop a _ h2 ch⟩, ?_⟩
      rw [Nat.mul_mod_mod, ← Nat.mul_assoc, half, Nat.add_mul, Nat.one_mul, Nat.add_comm, Nat.add_mul_mod_self_left, Nat.mod_eq_of_lt h1]
  have e := prodL_two (d := d) U
  rw [prodL_perm P, lU] at e
  have cp := prodL_cop (d := d) (l := U) fun x hx => ((mU x).mp hx).2
  have e2 : d ∣ 2 ^ phi d * prodL U - prodL U := Nat.dvd_of_mod_eq_zero (Nat.sub_mod_eq_zero_of_mod_eq e.symm)
  · rw [show 2 ^ phi d * prodL U - prodL U = (2 ^ phi d - 1) * prodL U by rw [Nat.sub_mul, Nat.one_mul]] at e2
    exact Nat.Coprime.dvd_of_dvd_mul_right (Nat.Coprime.symm cp) e2
theorem ord_dvd {o k m : Nat} (ho : 1 < o) (h2 : o % 2 = 1) (hO : Ord o k) (h : o ∣ 2 ^ m - 1) : k ∣ m := by
  have hk := hO.pos
  have e1 := (mod_one_dvd ho).mpr hO.yes
  have e2 := (mod_one_dvd ho).mpr h
  have e3 : 2 ^ (k * (m / k)) % o = 1 % o := by
    rw [Nat.pow_mul, Nat.pow_mod, e1, ← Nat.pow_mod, Nat.one_pow]
  have e4 : 2 ^ (m % k) % o = 1 % o := by
    have : 2 ^ m = 2 ^ (k * (m / k)) * 2 ^ (m % k) := by rw [← Nat.pow_add, Nat.div_add_mod]
    rw [this, Nat.mul_mod, e3, ← Nat.mul_mod, Nat.one_mul] at e2
    exact e2
  have e5 := (mod_one_dvd ho).mp e4
  by_cases hz : m % k = 0
  · exact Nat.dvd_of_mod_eq_zero hz
  · exact absurd e5 (hO.no (m % k) (by omega) (Nat.mod_lt _ hk))
theorem ord_phi {o k : Nat} (ho : 1 < o) (h2 : o % 2 = 1) (hO : Ord o k) : k ∣ phi o := ord_dvd ho h2 hO (euler_two h2)
end Hd
set_option maxHeartbeats 4000000
/-! The totient by trial; the events of rings, tails and ends. -/
namespace Hd
/-- within the trial: left is what is left of N, free is its share -/
structure To (N left fac free : Nat) : Prop where
  dn : ∃ done, N = left * done ∧ Nat.gcd left done = 1 ∧ free = left * phi done
  no : ∀ e, 2 ≤ e → e < fac → ¬ e ∣ left
  f2 : 2 ≤ fac
  lo : left = 1 ∨ fac ≤ left
  pos : 0 < left
theorem To.start {N : Nat} (h : 0 < N) : To N N 2 N := ⟨⟨1, by omega, Nat.gcd_one_right N, by rw [phi_one]; omega⟩, fun e h1 h2 => by omega, by decide, by omega, h⟩
theorem To.end {N fac free : Nat} (h : To N 1 fac free) : free = phi N := by
  obtain ⟨d, h1, h2, h3⟩ := h.dn
  rw [Nat.one_mul] at h1 h3
  rw [h3, h1]
/-- the trial's factor is left itself where it has no smaller one -/
theorem To.fac {N left fac free : Nat} (h : To N left fac free) (hl : 1 < left) (f : Nat) (hf : f = if fac * fac > left then left else fac) : To N left f free ∧ f ≤ left ∧ (¬ f ∣ left → f = fac ∧ f < left) := by
  have h2 := h.f2
  have lo : fac ≤ left := h.lo.resolve_left (by omega)
  by_cases c : fac * fac > left
  · rw [if_pos c] at hf
    subst hf
    refine ⟨⟨h.dn, fun e e1 e2 hd => ?_, hl, .inr (Nat.le_refl _), h.pos⟩, Nat.le_refl _, fun z => absurd (Nat.dvd_refl _) z⟩
    obtain ⟨q, hq⟩ := hd
    have q2 : 2 ≤ q := by
      rcases Nat.lt_or_ge q 2 with z | z
      · have : q = 0 ∨ q = 1 := by omega
        rcases this with z | z <;> subst z <;> omega
      · exact z
    have n1 : fac ≤ e := by
      rcases Nat.lt_or_ge e fac with z | z
      · exact absurd ⟨q, hq⟩ (h.no e e1 z)
      · exact z
    have n2 : fac ≤ q := by
      rcases Nat.lt_or_ge q fac with z | z
      · exact absurd ⟨e, by rw [Nat.mul_comm]; exact hq⟩ (h.no q q2 z)
      · exact z
    have := Nat.mul_le_mul n1 n2
    omega
  · rw [if_neg c] at hf
    subst hf
    refine ⟨h, lo, fun _ => ⟨rfl, ?_⟩⟩
    have := Nat.mul_le_mul_right f h2
    omega
/-- nothing of it is there -/
theorem To.skip {N left f free : Nat} (h : To N left f free) (hn : ¬ f ∣ left) (hlt : f < left) : To N left (f + 1) free :=
  ⟨h.dn, fun e e1 e2 => by
    rcases Nat.lt_or_ge e f with z | z
    · exact h.no e e1 z
    · have : e = f := by omega
      rw [this]
      exact hn, by have := h.f2; omega, .inr hlt, h.pos⟩
theorem To.prime {N left f free : Nat} (h : To N left f free) (hd : f ∣ left) (x : Nat) : Nat.gcd x f = 1 ∨ f ∣ x := by
  have f2 := h.f2
  have g1 := Nat.gcd_dvd_right x f
  have g0 : 0 < Nat.gcd x f := Nat.gcd_pos_of_pos_right _ (by omega)
  rcases Nat.lt_or_ge (Nat.gcd x f) f with z | z
  · left
    rcases Nat.lt_or_ge (Nat.gcd x f) 2 with y | y
    · omega
    · exact absurd (Nat.dvd_trans g1 hd) (h.no _ y z)
  · right
    have : Nat.gcd x f = f := Nat.le_antisymm (Nat.le_of_dvd (by omega) g1) z
    rw [← this]
    exact Nat.gcd_dvd_left x f
/-- all of it is taken: left was cur times so many of it -/
theorem To.take {N left f free k cur : Nat} (h : To N left f free) (e : left = f ^ (k + 1) * cur) (hn : ¬ f ∣ cur) : To N cur (f + 1) (free - free / f) ∧ 2 * cur ≤ left := by
  have f2 := h.f2
  have hd : f ∣ left := by
    rw [e, Nat.pow_succ, Nat.mul_comm (f ^ k), Nat.mul_assoc]
    exact Nat.dvd_mul_right _ _
  have c0 : 0 < cur := by
    rcases Nat.eq_zero_or_pos cur with z | z
    · have := h.pos
      rw [e, z] at this
      omega
    · exact z
  have cd : cur ∣ left := by
    rw [e]
    exact Nat.dvd_mul_left _ _
  have fp : 0 < f ^ k := Nat.pow_pos (by omega)
  have cop : Nat.gcd cur f = 1 := (h.prime hd cur).resolve_right hn
  have l2 : 2 * cur ≤ left := by
    rw [e, Nat.pow_succ]
    have a1 := Nat.mul_le_mul (show 1 ≤ f ^ k from fp) f2
    rw [Nat.one_mul] at a1
    exact Nat.mul_le_mul_right cur a1
  obtain ⟨done, h1, h2, h3⟩ := h.dn
  have fd : Nat.gcd f done = 1 := Nat.Coprime.coprime_dvd_left hd h2
  refine ⟨⟨⟨done * f ^ (k + 1), ?_, ?_, ?_⟩, fun x x1 x2 hx => ?_, by omega, ?_, c0⟩, l2⟩
  · rw [h1, e]
    rw [Nat.mul_comm (f ^ (k + 1)) cur, Nat.mul_assoc, Nat.mul_comm (f ^ (k + 1))]
  · refine Nat.Coprime.mul_right (Nat.Coprime.coprime_dvd_left cd h2) (Nat.Coprime.pow_right _ cop)
  · have g := phi_grow (a := done) (k := k) (h.prime hd) f2 fd
    have e1 : free = f * (f ^ k * cur * phi done) := by
      rw [h3, e, Nat.pow_succ]
      rw [Nat.mul_comm (f ^ k) f, Nat.mul_assoc, Nat.mul_assoc, Nat.mul_assoc]
    have e2 : free / f = f ^ k * cur * phi done := by rw [e1, Nat.mul_div_cancel_left _ (by omega)]
    rw [e2, h3, e]
    have e3 : f ^ (k + 1) * cur * phi done = cur * (f ^ (k + 1) * phi done) := by rw [Nat.mul_comm (f ^ (k + 1)) cur, Nat.mul_assoc]
    have e4 : f ^ k * cur * phi done = cur * (f ^ k * phi done) := by rw [Nat.mul_comm (f ^ k) cur, Nat.mul_assoc]
    rw [e3, e4, ← Nat.mul_sub, ← g, Nat.add_sub_cancel]
  · rcases Nat.lt_or_ge x f with z | z
    · exact h.no x x1 z (Nat.dvd_trans hx cd)
    · have : x = f := by omega
      rw [this] at hx
      exact hn hx
  · rcases Nat.lt_or_ge cur 2 with z | z
    · left
      omega
    · right
      rcases Nat.lt_or_ge cur f with y | y
      · exact absurd cd (h.no cur z y)
      · have : cur ≠ f := fun z => hn (by rw [z]; exact Nat.dvd_refl _)
        omega
/-! ### the classes of a sum's standings -/
/-- the odd divisors above 1, in order -/
def divs (odd : Nat) : List Nat := ((List.range ((odd - 1) / 2)).map fun i => 3 + 2 * i).filter fun d => decide (odd % d = 0)
theorem divs_nodup (odd : Nat) : (divs odd).Nodup := by
  refine List.Pairwise.filter _ (List.pairwise_map.mpr (List.Pairwise.imp (fun {a b} (h : a ≠ b) => ?_) List.nodup_range))
  show 3 + 2 * a ≠ 3 + 2 * b
  omega
theorem mem_divs {odd d : Nat} (ho : odd % 2 = 1) : d ∈ divs odd ↔ d ∣ odd ∧ 1 < d := by
  unfold divs
  rw [List.mem_filter, List.mem_map, decide_eq_true_eq]
  constructor
  · rintro ⟨⟨i, _, rfl⟩, h⟩
    exact ⟨Nat.dvd_of_mod_eq_zero h, by omega⟩
  · rintro ⟨h1, h2⟩
    have le := Nat.le_of_dvd (by omega) h1
    have od : d % 2 = 1 := by
      rcases Nat.mod_two_eq_zero_or_one d with z | z
      · have : 2 ∣ odd := Nat.dvd_trans (Nat.dvd_of_mod_eq_zero z) h1
        omega
      · exact z
    refine ⟨⟨(d - 3) / 2, List.mem_range.mpr (by omega), by omega⟩, Nat.mod_eq_zero_of_dvd h1⟩
theorem divs_odd {odd d : Nat} (ho : odd % 2 = 1) (h : d ∈ divs odd) : d % 2 = 1 ∧ 3 ≤ d := by
  have h1 := (mem_divs ho).mp h
  have od : d % 2 = 1 := by
    rcases Nat.mod_two_eq_zero_or_one d with z | z
    · have : 2 ∣ odd := Nat.dvd_trans (Nat.dvd_of_mod_eq_zero z) h1.1
      omega
    · exact z
  exact ⟨od, by omega⟩
theorem sum_map_congr {α : Type} {f g : α → Nat} : ∀ {l : List α}, (∀ x ∈ l, f x = g x) → (l.map f).sum = (l.map g).sum
  | [], _ => rfl
  | x :: l, h => by rw [List.map_cons, List.map_cons, List.sum_cons, List.sum_cons, h x List.mem_cons_self, sum_map_congr fun y hy => h y (List.mem_cons_of_mem _ hy)]
/-- a weight of the odd classes above 1, summed over all places -/
theorem sum_odd {n odd : Nat} (hn : 0 < n) (ho : odd % 2 = 1) (hd : odd ∣ n) (f : Nat → Nat) (hf : ∀ x, x < n → f (n / Nat.gcd x n) ≠ 0 → n / Nat.gcd x n ∈ divs odd) :
    ((List.range n).map fun x => f (n / Nat.gcd x n)).sum = ((divs odd).map fun d => f d * phi d).sum := by
  rw [sum_part (divs_nodup odd) f (fun x => n / Nat.gcd x n) fun x hx => hf x (List.mem_range.mp hx)]
  refine sum_map_congr fun d hdd => ?_
  congr 1
  exact phi_class hn (Nat.dvd_trans ((mem_divs ho).mp hdd).1 hd)
theorem gauss {odd : Nat} (ho : odd % 2 = 1) : ((divs odd).map phi).sum = odd - 1 := by
  have h := sum_odd (n := odd) (odd := odd) (by omega) ho (Nat.dvd_refl _) (fun d => if 1 < d then 1 else 0) fun x hx hne => by
    have c : 1 < odd / Nat.gcd x odd := Classical.byContradiction fun z => hne (if_neg z)
    exact (mem_divs ho).mpr ⟨Nat.div_dvd_of_dvd (Nat.gcd_dvd_right _ _), c⟩
  have e1 : ((divs odd).map fun d => (if 1 < d then 1 else 0) * phi d).sum = ((divs odd).map phi).sum := sum_map_congr fun d hd => by
    rw [if_pos ((mem_divs ho).mp hd).2, Nat.one_mul]
  rw [← e1, ← h]
  have e2 : ∀ l : List Nat, (∀ x ∈ l, x ≠ 0 ∧ x < odd) → (l.map fun x => if 1 < odd / Nat.gcd x odd then 1 else 0).sum = l.length := fun l => by
    induction l with
    | nil => intro _; rfl
    | cons x l ih =>
      intro hl
      obtain ⟨x0, x1⟩ := hl x List.mem_cons_self
      have g1 : Nat.gcd x odd ≤ x := Nat.le_of_dvd (by omega) (Nat.gcd_dvd_left _ _)
      have g2 := Nat.div_mul_cancel (Nat.gcd_dvd_right x odd)
      have c : 1 < odd / Nat.gcd x odd := by
        rcases Nat.lt_or_ge 1 (odd / Nat.gcd x odd) with z | z
        · exact z
        · have := Nat.mul_le_mul_right (Nat.gcd x odd) z
          omega
      rw [List.map_cons, List.sum_cons, if_pos c, ih fun y hy => hl y (List.mem_cons_of_mem _ hy), List.length_cons, Nat.add_comm]
  obtain ⟨m, rfl⟩ : ∃ m, odd = m + 1 := ⟨odd - 1, by omega⟩
  rw [List.range_succ_eq_map, List.map_cons, List.sum_cons, Nat.gcd_zero_left, Nat.div_self (by omega), if_neg (by decide), Nat.zero_add, e2, List.length_map, List.length_range]
  · rfl
  · intro x hx
    obtain ⟨y, hy, rfl⟩ := List.mem_map.mp hx
    have := List.mem_range.mp hy
    exact ⟨by omega, by omega⟩
end Hd
set_option maxHeartbeats 4000000
/-! sorted(d.items()), d a dict of ints by ints. -/
namespace Hd
open PySem PySem.Spec PyProof.Rows L2
/-- a tuple of two ints at each address -/
def PairsAt (H : Hp) (ts : List Addr) (qs : List (Int × Int)) : Prop := Paired (fun (t : Addr) (q : Int × Int) => H t = some (.tup [.int q.1, .int q.2])) ts qs
def ltQ (p q : Int × Int) : Bool := SrtO.lexB p q
/-- sorted: no later one is below an earlier one -/
def SrtQ (qs : List (Int × Int)) : Prop := qs.Pairwise fun p q => SrtO.lexB q p = false
abbrev dRow (p : Int × Int) : L2.Key × V := (Sum.inl p.1, V.int p.2)
def rSortedItems : V → Hp → VK → Prop := fun x H Q => ∃ (d : Addr) (ps : List (Int × Int)), x = .ref d ∧ H d = some (.dK (ps.map dRow)) ∧
  ∀ (H' : Hp) (p : Addr) (ts : List Addr) (qs : List (Int × Int)), Same H H' → H p = none → qs.Perm ps → SrtQ qs → H' p = some (.lst (ts.map V.ref)) → PairsAt H' ts qs → Q (.ref p) H'
def tSortedItems (te : TE) : TE := fun σ H Q => te σ H fun x H1 => rSortedItems x H1 Q
theorem pairs_get {prog : Program} {w : World} {K : Type} [DecidableEq K] {knd : KeyKind prog w K} : ∀ {es : List DictEntry} {kvs : List (K × Value)}, PySem.Pairs knd es kvs → ∀ {j : Nat} {e : DictEntry}, es[j]? = some e → ∃ k x, kvs[j]? = some (k, x) ∧ knd.is k e.key = true ∧ e.val = x
  | _, _, .nil, j, e, h => by cases h
  | _, _, .cons a b t, 0, e, h => by
    cases h
    exact ⟨_, _, rfl, a, b⟩
  | _, _, .cons a b t, j + 1, e, h => pairs_get t h
theorem srtd_q {k : Value → Int × Int} {out : List Value} (h : SrtO.Srtd (fun v u => SrtO.lexB (k v) (k u)) out) : SrtQ (out.map k) := List.pairwise_map.mpr h
theorem paired_map {α β γ : Type} {F : β → γ → Prop} (f : α → β) (g : α → γ) : ∀ {l : List α}, (∀ x ∈ l, F (f x) (g x)) → Paired F (l.map f) (l.map g)
  | [], _ => .nil
  | x :: l, h => .cons (h x List.mem_cons_self) (paired_map f g fun y hy => h y (List.mem_cons_of_mem _ hy))
theorem zip_maps {α β γ δ : Type} (f : α → γ) (g : β → δ) : ∀ (as : List α) (bs : List β), as.length = bs.length → (as.zip bs).map (fun z => f z.1) = as.map f ∧ (as.zip bs).map (fun z => g z.2) = bs.map g
  | [], [], _ => ⟨rfl, rfl⟩
  | [], _ :: _, h => by cases h
  | _ :: _, [], h => by cases h
  | a :: as, b :: bs, h => by
    obtain ⟨h1, h2⟩ := zip_maps f g as bs (Nat.succ.inj h)
    exact ⟨by rw [List.zip_cons_cons, List.map_cons, h1, List.map_cons], by rw [List.zip_cons_cons, List.map_cons, h2, List.map_cons]⟩
theorem perm_back {α β : Type} (f : α → β) : ∀ {L M : List β}, L.Perm M → ∀ xs : List α, M = xs.map f → ∃ ys : List α, L = ys.map f ∧ ys.Perm xs := by
  intro L M p
  induction p with
  | nil => exact fun xs e => ⟨xs, e, List.Perm.refl _⟩
  | cons x p ih =>
    intro xs e
    obtain ⟨y, ys, rfl, e1, e2⟩ := List.map_eq_cons_iff.mp e.symm
    obtain ⟨zs, z1, z2⟩ := ih ys e2.symm
    exact ⟨y :: zs, by rw [List.map_cons, e1, z1], z2.cons y⟩
  | swap x y l =>
    intro xs e
    obtain ⟨u, us, rfl, e1, e2⟩ := List.map_eq_cons_iff.mp e.symm
    obtain ⟨v, vs, rfl, e3, e4⟩ := List.map_eq_cons_iff.mp e2
    exact ⟨v :: u :: vs, by rw [List.map_cons, List.map_cons, e1, e3, e4], List.Perm.swap _ _ _⟩
  | trans p q ih1 ih2 =>
    intro xs e
    obtain ⟨ys, y1, y2⟩ := ih2 xs e
    obtain ⟨zs, z1, z2⟩ := ih1 ys y1
    exact ⟨zs, z1, z2.trans y2⟩
section
variable {X : Cx} {e : Expr} {te : TE} {p apos cpos pos : Pos}
theorem sorted_view {pins : List (Addr × Obj)} {σ : L2.St} {H : Hp} {s : Shared} {d r : Addr} {ps : List (Int × Int)} {Q : VK} (hc : X.calm = true) (I : L2.Inv X pins σ H s) (hd : H d = some (.dK (ps.map dRow))) (hv : s.heap.IsItemsView r d)
    (q : ∀ (H' : Hp) (p : Addr) (ts : List Addr) (qs : List (Int × Int)), Same H H' → H p = none → qs.Perm ps → SrtQ qs → H' p = some (.lst (ts.map V.ref)) → PairsAt H' ts qs → Q (.ref p) H') :
    wpAny (model X.prog X.w) X.A (call (.builtin "sorted") [.ref r]) (EP X pins σ Q) X.xe s := by
  obtain ⟨hz, hs0, vs, kv, hdo⟩ := I.hok d _ hd
  obtain ⟨o, es, ep, ho, hx, hdat, _, hpr, hnd⟩ := hdo
  have l1 : ps.length = vs.length := by
    have := Paired.length kv
    rwa [List.length_map] at this
  have l2 : es.toList.length = vs.length := hpr.length
  rw [List.length_map] at hz
  have l3 : es.size = ps.length := by rw [← Array.length_toList]; omega
  refine DT.sortedI (es := es) (ep := ep) (I.ok.hd hc) hv ⟨o, ho, hx, hdat⟩ (by omega) fun h' tk as hk hlt hl hG => ?_
  have lak : as.length = ps.length := by omega
  have nd : as.Nodup := List.Pairwise.imp (fun h => Nat.ne_of_lt h) hG.rise
  -- the pairs that were made
  have pr : ∀ (j : Nat) (b : Addr), as[j]? = some b → ∃ (z : Int × Int) (t1 t2 : Tok), ps[j]? = some z ∧ h'.get? b = some { cls := .type "tuple", data := .seq #[Value.int z.1 t1, Value.int z.2 t2] } := fun j b hj => by
    obtain ⟨en, he, hg⟩ := hG.pairs j b hj
    have he' : es.toList[j]? = some en := by simpa using he
    obtain ⟨k, x, e1, e2, e3⟩ := pairs_get hpr he'
    have hjl : j < ps.length := by
      have := (List.getElem?_eq_some_iff.mp hj).1
      omega
    have e4 : (ps.map dRow)[j]? = some (dRow ps[j]) := by rw [List.getElem?_map, List.getElem?_eq_getElem hjl]; rfl
    obtain ⟨y, f1, f2, f3⟩ := LiI.paired_get kv e4
    rw [e1] at f1
    cases f1
    have f2' : k = Sum.inl ps[j].1 := f2.symm
    subst f2'
    have rk : RelV (V.int ps[j].1) en.key := relV_key (show keyIs (Sum.inl ps[j].1) en.key = true from e2)
    obtain ⟨t1, ek⟩ := rk
    obtain ⟨t2, ex⟩ := (show RelV (V.int ps[j].2) x from f3)
    refine ⟨ps[j], t1, t2, List.getElem?_eq_getElem hjl, ?_⟩
    rw [hg, ek, e3, ex]
  have fz : ∀ v, v ∈ as → ∃ z : Int × Int, z ∈ ps ∧ ∃ t1 t2, h'.get? v = some { cls := .type "tuple", data := .seq #[Value.int z.1 t1, Value.int z.2 t2] } := fun v hv => by
    obtain ⟨j, hj⟩ := List.mem_iff_getElem?.mp hv
    obtain ⟨z, t1, t2, e1, e2⟩ := pr j v hj
    exact ⟨z, List.mem_of_getElem? e1, t1, t2, e2⟩
  -- which pair stands at an address
  let kz : Addr → Int × Int := fun b => ((as.zip ps).find? fun z => decide (z.1 = b)).elim (0, 0) (·.2)
  have kzj : ∀ (j : Nat) (b : Addr), as[j]? = some b → ∃ t1 t2, h'.get? b = some { cls := .type "tuple", data := .seq #[Value.int (kz b).1 t1, Value.int (kz b).2 t2] } ∧ ps[j]? = some (kz b) := fun j b hj => by
    obtain ⟨z, t1, t2, e1, e2⟩ := pr j b hj
    have ek : kz b = z := by
      have hm : (b, z) ∈ as.zip ps := by
        refine List.mem_of_getElem? (i := j) ?_
        rw [List.getElem?_zip_eq_some]
        exact ⟨hj, e1⟩
      cases ef : (as.zip ps).find? fun z => decide (z.1 = b) with
      | none => exact absurd (List.find?_eq_none.mp ef _ hm) (by simp)
      | some y =>
        have y1 : y.1 = b := of_decide_eq_true (List.find?_some (p := fun z : Addr × (Int × Int) => decide (z.1 = b)) ef)
        have y2 := List.mem_of_find?_eq_some ef
        obtain ⟨i, hi⟩ := List.mem_iff_getElem?.mp y2
        rw [List.getElem?_zip_eq_some] at hi
        obtain ⟨i1, i2⟩ := hi
        rw [y1] at i1
        have hij : i = j := by
          obtain ⟨a1, a2⟩ := List.getElem?_eq_some_iff.mp i1
          obtain ⟨b1, b2⟩ := List.getElem?_eq_some_iff.mp hj
          exact (List.getElem_inj nd).mp (a2.trans b2.symm)
        rw [hij, e1] at i2
        show ((as.zip ps).find? fun z => decide (z.1 = b)).elim (0, 0) (·.2) = z
        rw [ef]
        exact (Option.some.inj i2).symm
    rw [ek]
    exact ⟨t1, t2, e2, e1⟩
  have emap : as.map kz = ps := by
    refine List.ext_getElem? fun j => ?_
    rw [List.getElem?_map]
    cases hj : as[j]? with
    | none =>
      have := List.getElem?_eq_none_iff.mp hj
      exact (List.getElem?_eq_none_iff.mpr (by omega)).symm
    | some b =>
      obtain ⟨_, _, _, e⟩ := kzj j b hj
      exact e.symm
  have hsl : ((as.map Value.ref).toArray).size = as.length := by simp
  -- the heap of the sort
  have hob : (h'.push { cls := .type "list", data := .seq (as.map Value.ref).toArray }).get? h'.objs.size = some (seqObj "list" (as.map Value.ref).toArray 0) := Heap.get?_push_size _ rfl
  let kV' : Value → Int × Int := fun v => match v with | .ref a => kz a | _ => (0, 0)
  have isp : ∀ v ∈ as.map Value.ref, Srt.IsPair (h'.push { cls := .type "list", data := .seq (as.map Value.ref).toArray }) v (kV' v).1 (kV' v).2 := fun v hv => by
    obtain ⟨b, hb, rfl⟩ := List.mem_map.mp hv
    obtain ⟨j, hj⟩ := List.mem_iff_getElem?.mp hb
    obtain ⟨t1, t2, e1, e2⟩ := kzj j b hj
    exact ⟨b, _, t1, t2, 0, rfl, Heap.get?_push_of_some _ e1, rfl, rfl⟩
  refine wpAny_call_entry slot_list_sort ⟨_, hob, rfl⟩ entry_list_sort (SrtO.list_sort_ord (vs := as.map Value.ref) (ltv := fun v u => SrtO.lexB (kV' v) (kV' u)) (SrtO.swo_lex kV') hob (by rw [List.length_map]; omega) (fun h2 => ?_) fun out hsr hst => ⟨_, rfl, ?_⟩) (PyProof.Rows.args_list_sort _)
  · refine SrtO.pairs_sortableO (by omega) isp fun o e => ?_
    have e' : some o = some (seqObj "list" (as.map Value.ref).toArray 0) := e.symm.trans hob
    cases e'
    intro c
    exact absurd (Value.type.inj c) (by decide)
  · -- what is known behind
    have I1 : L2.Inv X pins σ H { s with heap := h', toks := tk } := I.kept (t' := tk) hk
    obtain ⟨H2, I2, g2, q2⟩ := L2.DX.takeT (X := X) (h' := h') (tk := tk) (P := fun a vs => vs = [V.int (kz a).1, V.int (kz a).2]) I as H I1 nd fun a ha => by
      obtain ⟨j, hj⟩ := List.mem_iff_getElem?.mp ha
      obtain ⟨t1, t2, e1, e2⟩ := kzj j a hj
      refine ⟨Nat.le_of_lt (hG.above a ha), I.hok.fresh (Nat.le_of_lt (hG.above a ha)), _, rfl, fun H2 => ⟨by show 2 ≤ sizeLine; decide, [_, _], .cons ⟨t1, rfl⟩ (.cons ⟨t2, rfl⟩ .nil), ⟨_, e1, rfl, _, rfl⟩⟩⟩
    have hperm : out.Perm (as.map Value.ref) := hst.perm
    obtain ⟨ts, ets, eperm⟩ := perm_back Value.ref hperm as rfl
    have hh2 : h'.objs.size = h'.objs.size := rfl
    obtain ⟨epo, he'⟩ := PyProof.Rows.sortedHeap_at (vs := as.map Value.ref) (out := out.toArray) hob
    have keep : ∀ b u, h'.get? b = some u → (sortedHeap (h'.push { cls := .type "list", data := .seq (as.map Value.ref).toArray }) h'.objs.size (as.map Value.ref) out.toArray).get? b = some u := fun b u e => by
      have hlt := Heap.lt_size e
      rw [PyProof.Rows.sortedHeap_old (Nat.ne_of_lt hlt) (by rw [Heap.size_push]; exact Nat.lt_succ_of_lt hlt)]
      exact Heap.get?_push_of_some _ e
    have hsz : (ts.map V.ref).length ≤ sizeLine := by
      rw [List.length_map, eperm.length_eq]
      omega
    have new : ObjOk X.prog X.w (upd H2 h'.objs.size (.lst (ts.map V.ref))) (sortedHeap (h'.push { cls := .type "list", data := .seq (as.map Value.ref).toArray }) h'.objs.size (as.map Value.ref) out.toArray) h'.objs.size (.lst (ts.map V.ref)) :=
      ⟨hsz, out, epo, by rw [ets]; exact LiI.vals_refs ts, he'⟩
    have I3 : L2.Inv X pins σ (upd H2 h'.objs.size (.lst (ts.map V.ref))) { s with heap := sortedHeap (h'.push { cls := .type "list", data := .seq (as.map Value.ref).toArray }) h'.objs.size (as.map Value.ref) out.toArray, toks := tk } :=
      I2.laid (t' := tk) keep (Nat.le_refl _) new
    have fr2 : H2 h'.objs.size = none := I2.hok.fresh (Nat.le_refl _)
    have frs : H h'.objs.size = none := I.hok.fresh (Nat.le_of_lt hlt)
    refine ⟨.ref h'.objs.size, _, I3, rfl, q _ _ ts (ts.map kz) (fun b u e => ?_) frs ?_ ?_ upd_same ?_⟩
    · rw [upd_ne (ne_of_none (g2 b u e) fr2)]
      exact g2 b u e
    · rw [← emap]
      exact eperm.map kz
    · have := srtd_q (k := kV') hsr
      rw [ets, List.map_map] at this
      exact this
    · have : Paired (fun (t : Addr) (q : Int × Int) => upd H2 h'.objs.size (.lst (ts.map V.ref)) t = some (.tup [.int q.1, .int q.2])) (ts.map id) (ts.map kz) := paired_map id kz fun a ha => by
        obtain ⟨vs', e1, e2⟩ := q2 a (eperm.mem_iff.mp ha)
        show upd H2 h'.objs.size (.lst (ts.map V.ref)) a = _
        rw [upd_ne (ne_of_none e2 fr2), e2, e1]
      rw [List.map_id] at this
      exact this
/-- sorted(e.items()) -/
theorem pe_sortedItems (hc : X.calm = true) (he : PE X e te) (hg : Gl X "sorted") (hm : X.mg "sorted" = none) (hbase : attributeBase e "items" X.env (eval e X.env) = eval e X.env := by rfl) (hline : (apos.endLine == cpos.line) = true := by rfl)
    (hs : starEach [.Call (.Attribute e "items" apos) [] [] cpos] X.env = (false, eval (.Call (.Attribute e "items" apos) [] [] cpos) X.env) :: starEach [] X.env := by rfl) :
    PE X (.Call (.Name "sorted" p) [.Call (.Attribute e "items" apos) [] [] cpos] [] pos) (tSortedItems te) := by
  refine ⟨fun pins s σ H Q I hq => ?_⟩
  refine wpAny_Call_Name_kw (ld_blt I hg hm (u := .builtin "sorted") (by decide +kernel) ?_)
  refine PyProof.Rows.callWith_builtin1 ?_ hs rfl
  rw [hs]
  show wpAny _ _ (spliced ((false, eval (.Call (.Attribute e "items" apos) [] [] cpos) X.env) :: backTo pos (starEach [] X.env))) _ _ s
  refine Calls.spliced_cons ?_
  refine wpAny_Call_method (T := "dict") (id := "dict.items") hbase rfl hline F.plainAttrs_dict F.slot_dict_items F.type_dict_items (thn (he.run pins s σ H _ I hq) fun u s1 ⟨x, H1, I1, rx, d, ps, ex, hd, q⟩ => ?_)
  subst ex
  obtain rfl : u = Value.ref d := rx
  obtain ⟨hz, hs0, vs, kv, hdo⟩ := I1.hok d _ hd
  have I2 : L2.Inv X pins σ H1 { s1 with heap := s1.heap.push { cls := .type "dict_items", data := .fields #[.ref d] } } := I1.kept (t' := s1.toks) fun b ob q => Heap.get?_push_of_some _ q
  refine ⟨hdo.typeIs, hdo.mapOf.noDict, ?_⟩
  show wpAny _ _ (callWith cpos (.builtin "dict.items") [.ref d] [] []) _ X.xe s1
  refine method_meetsIn F.slot_dict_items F.entry_dict_items rfl (PySem.evalArgs_none ⟨rfl, hdo.typeIs, F.args_dict_items_1 _, _, meets_dict_items (mixKind X.prog X.w) d hs0, ⟨vs, hdo⟩, ?_⟩)
  refine Calls.spliced_nil ?_
  exact sorted_view hc I2 hd ⟨_, Heap.get?_push_size _ rfl, rfl, rfl⟩ q
end
end Hd
set_option maxHeartbeats 4000000
/-! A dict that counts; the events of a sum's standings. -/
namespace Hd
open PySem PySem.Spec PyProof.Rows L2
/-! ### a dict that counts -/
/-- the weight of a key -/
def wsum (es : List (Nat × Nat)) (k : Nat) : Nat := (es.map fun e => if e.1 = k then e.2 else 0).sum
theorem wsum_app (es fs : List (Nat × Nat)) (k : Nat) : wsum (es ++ fs) k = wsum es k + wsum fs k := by
  unfold wsum
  rw [List.map_append, List.sum_append]
theorem wsum_one (e : Nat × Nat) (k : Nat) : wsum [e] k = if e.1 = k then e.2 else 0 := by
  unfold wsum
  simp
theorem wsum_none {es : List (Nat × Nat)} {k : Nat} (h : ¬ ∃ e ∈ es, e.1 = k) : wsum es k = 0 := by
  induction es with
  | nil => rfl
  | cons e es ih =>
    have h1 : e.1 ≠ k := fun z => h ⟨e, List.mem_cons_self, z⟩
    have h2 := ih fun ⟨x, hx, z⟩ => h ⟨x, List.mem_cons_of_mem _ hx, z⟩
    unfold wsum at h2 ⊢
    rw [List.map_cons, List.sum_cons, if_neg h1, h2]
abbrev nRow (p : Nat × Nat) : L2.Key × V := dRow ((p.1 : Int), (p.2 : Int))
/-- what the counting dict holds behind the events es -/
structure Dic (ps es : List (Nat × Nat)) : Prop where
  nd : (ps.map (·.1)).Nodup
  mem : ∀ k v, (k, v) ∈ ps ↔ (∃ e ∈ es, e.1 = k) ∧ v = wsum es k
  whole : (ps.map fun p => p.1 * p.2).sum = (es.map fun e => e.1 * e.2).sum
  len : ps.length ≤ es.length
theorem Dic.nil : Dic [] [] := ⟨List.nodup_nil, fun k v => by simp, rfl, Nat.le_refl _⟩
def bump (ps : List (Nat × Nat)) (k v : Nat) : List (Nat × Nat) := if k ∈ ps.map (·.1) then ps.map fun p => if p.1 = k then (p.1, v) else p else ps ++ [(k, v)]
theorem bump_map (ps : List (Nat × Nat)) (k v : Nat) : putK (ps.map nRow) (Sum.inl (k : Int)) (V.int (v : Int)) = (bump ps k v).map nRow := by
  have e1 : ((ps.map nRow).any fun kv => decide (kv.1 = Sum.inl (k : Int))) = decide (k ∈ ps.map (·.1)) := by
    rw [List.any_map, Bool.eq_iff_iff, List.any_eq_true, decide_eq_true_eq, List.mem_map]
    constructor
    · rintro ⟨p, hp, e⟩
      have e' := of_decide_eq_true e
      have := Sum.inl.inj e'
      exact ⟨p, hp, by omega⟩
    · rintro ⟨p, hp, e⟩
      exact ⟨p, hp, decide_eq_true (by show (Sum.inl (p.1 : Int) : L2.Key) = Sum.inl (k : Int); rw [e])⟩
  unfold putK bump
  rw [e1]
  by_cases h : k ∈ ps.map (·.1)
  · rw [if_pos (decide_eq_true h), if_pos h, List.map_map, List.map_map]
    refine List.map_congr_left fun p _ => ?_
    show (if (Sum.inl (p.1 : Int) : L2.Key) = Sum.inl (k : Int) then _ else _) = nRow (if p.1 = k then (p.1, v) else p)
    by_cases e : p.1 = k
    · rw [if_pos e, if_pos (by rw [e])]
    · rw [if_neg e, if_neg fun z => e (by have := Sum.inl.inj z; omega)]
  · rw [if_neg (by rw [decide_eq_false h]; decide), if_neg h, List.map_append]
    rfl
theorem Dic.val {ps es : List (Nat × Nat)} (h : Dic ps es) (k : Nat) : (valV (ps.map nRow) (Sum.inl (k : Int))).getD (V.int 0) = V.int (wsum es k : Int) := by
  unfold valV
  rw [List.find?_map]
  cases e : ps.find? ((fun kv : L2.Key × V => decide (kv.1 = Sum.inl (k : Int))) ∘ nRow) with
  | none =>
    have : ¬ ∃ x ∈ es, x.1 = k := fun hx => by
      have := List.find?_eq_none.mp e (k, wsum es k) ((h.mem k _).mpr ⟨hx, rfl⟩)
      exact this (decide_eq_true rfl)
    rw [wsum_none this]
    rfl
  | some p =>
    have e1 := List.find?_some e
    have e2 := List.mem_of_find?_eq_some e
    have e3 : p.1 = k := by
      have := Sum.inl.inj (of_decide_eq_true e1)
      omega
    obtain ⟨a, b⟩ := p
    dsimp only at e3
    subst e3
    have := ((h.mem a b).mp e2).2
    rw [this]
    rfl
theorem Dic.has {ps es : List (Nat × Nat)} (h : Dic ps es) {k : Nat} (hk : k ∈ ps.map (·.1)) : valV (ps.map nRow) (Sum.inl (k : Int)) = some (V.int (wsum es k : Int)) := by
  have e := h.val k
  cases ev : valV (ps.map nRow) (Sum.inl (k : Int)) with
  | none =>
    have := valV_any (Sum.inl (k : Int)) (ps.map nRow)
    rw [ev] at this
    obtain ⟨p, hp, rfl⟩ := List.mem_map.mp hk
    have h2 : ((ps.map nRow).any fun kv => decide (kv.1 = Sum.inl (p.1 : Int))) = true := by
      rw [List.any_map, List.any_eq_true]
      exact ⟨p, hp, decide_eq_true rfl⟩
    rw [h2] at this
    cases this
  | some v =>
    rw [ev] at e
    have e' : v = V.int (wsum es k : Int) := e
    rw [e']
theorem bump_keys {ps : List (Nat × Nat)} {k v : Nat} (h : (ps.map (·.1)).Nodup) : ((bump ps k v).map (·.1)).Nodup ∧ (bump ps k v).length ≤ ps.length + 1 := by
  unfold bump
  by_cases c : k ∈ ps.map (·.1)
  · rw [if_pos c, List.map_map, List.length_map]
    have : (ps.map ((fun p : Nat × Nat => p.1) ∘ fun p => if p.1 = k then (p.1, v) else p)) = ps.map (·.1) := List.map_congr_left fun p _ => by
      show (if p.1 = k then (p.1, v) else p).1 = p.1
      split <;> rfl
    rw [this]
    exact ⟨h, by omega⟩
  · rw [if_neg c, List.map_append, List.length_append]
    refine ⟨List.nodup_append.mpr ⟨h, by simp, fun a ha b hb e => ?_⟩, Nat.le_refl _⟩
    have eb : b = k := by simpa using hb
    rw [e, eb] at ha
    exact c ha
theorem bump_mem {ps : List (Nat × Nat)} {k v a b : Nat} (h : (ps.map (·.1)).Nodup) : (a, b) ∈ bump ps k v ↔ (a = k ∧ b = v) ∨ (a ≠ k ∧ (a, b) ∈ ps) := by
  unfold bump
  by_cases c : k ∈ ps.map (·.1)
  · rw [if_pos c, List.mem_map]
    constructor
    · rintro ⟨p, hp, e⟩
      by_cases e2 : p.1 = k
      · rw [if_pos e2] at e
        cases e
        exact .inl ⟨e2, rfl⟩
      · rw [if_neg e2] at e
        subst e
        exact .inr ⟨e2, hp⟩
    · rintro (⟨e1, e2⟩ | ⟨e1, e2⟩)
      · subst e1 e2
        obtain ⟨p, hp, e⟩ := List.mem_map.mp c
        exact ⟨p, hp, by rw [if_pos e, e]⟩
      · exact ⟨(a, b), e2, if_neg e1⟩
  · rw [if_neg c, List.mem_append]
    constructor
    · rintro (h1 | h1)
      · refine .inr ⟨fun z => ?_, h1⟩
        subst z
        exact c (List.mem_map.mpr ⟨(a, b), h1, rfl⟩)
      · have : (a, b) = (k, v) := by simpa using h1
        cases this
        exact .inl ⟨rfl, rfl⟩
    · rintro (⟨e1, e2⟩ | ⟨e1, e2⟩)
      · subst e1 e2
        exact .inr (by simp)
      · exact .inl e2
theorem bump_sum : ∀ {ps : List (Nat × Nat)} {k v w : Nat}, (ps.map (·.1)).Nodup → (k, v) ∈ ps → (((ps.map fun p => if p.1 = k then (p.1, v + w) else p)).map fun p => p.1 * p.2).sum = (ps.map fun p => p.1 * p.2).sum + k * w
  | p :: ps, k, v, w, h, hm => by
    obtain ⟨h1, h2⟩ := List.nodup_cons.mp (by rwa [List.map_cons] at h)
    rw [List.map_cons, List.map_cons, List.map_cons, List.sum_cons, List.sum_cons]
    rcases List.mem_cons.mp hm with e | hm
    · subst e
      have : (ps.map fun p => if p.1 = k then (p.1, v + w) else p) = ps := by
        refine (List.map_congr_left fun p hp => if_neg fun z => h1 ?_).trans (List.map_id _)
        exact List.mem_map.mpr ⟨p, hp, z⟩
      rw [this, if_pos rfl, Nat.mul_add]
      dsimp only
      omega
    · have e : p.1 ≠ k := fun z => h1 (by rw [z]; exact List.mem_map.mpr ⟨(k, v), hm, rfl⟩)
      rw [if_neg e, bump_sum h2 hm]
      omega
theorem Dic.put {ps es : List (Nat × Nat)} (h : Dic ps es) (k w : Nat) : Dic (bump ps k (wsum es k + w)) (es ++ [(k, w)]) := by
  obtain ⟨b1, b2⟩ := bump_keys (k := k) (v := wsum es k + w) h.nd
  refine ⟨b1, fun a b => ?_, ?_, by rw [List.length_append]; have := h.len; exact Nat.le_trans b2 (Nat.succ_le_succ this)⟩
  · rw [bump_mem h.nd, wsum_app, wsum_one, h.mem]
    constructor
    · rintro (⟨e1, e2⟩ | ⟨e1, e2, e3⟩)
      · subst e1
        exact ⟨⟨(a, w), by simp, rfl⟩, by rw [if_pos rfl]; exact e2⟩
      · obtain ⟨x, hx, hxk⟩ := e2
        exact ⟨⟨x, List.mem_append_left _ hx, hxk⟩, by rw [if_neg (fun z => e1 z.symm)]; exact e3⟩
    · rintro ⟨⟨x, hx, hxk⟩, e2⟩
      by_cases c : k = a
      · subst c
        rw [if_pos rfl] at e2
        exact .inl ⟨rfl, e2⟩
      · rw [if_neg c] at e2
        refine .inr ⟨fun z => c z.symm, ?_, e2⟩
        rcases List.mem_append.mp hx with hx | hx
        · exact ⟨x, hx, hxk⟩
        · have : x = (k, w) := by simpa using hx
          subst this
          exact absurd hxk c
  · rw [List.map_append, List.sum_append, ← h.whole]
    have es1 : (([(k, w)] : List (Nat × Nat)).map fun e => e.1 * e.2).sum = k * w := by simp
    rw [es1]
    unfold bump
    by_cases c : k ∈ ps.map (·.1)
    · rw [if_pos c]
      obtain ⟨p, hp, e⟩ := List.mem_map.mp c
      obtain ⟨a, b⟩ := p
      dsimp only at e
      subst e
      have := ((h.mem a b).mp hp).2
      subst this
      exact bump_sum h.nd hp
    · rw [if_neg c, List.map_append, List.sum_append]
      have : wsum es k = 0 := wsum_none fun hx => c (List.mem_map.mpr ⟨_, (h.mem k _).mpr ⟨hx, rfl⟩, rfl⟩)
      rw [this, Nat.zero_add]
      simp
/-! ### sorted lists of pairs are one -/
theorem srt_uniq : ∀ {a b : List (Int × Int)}, SrtQ a → SrtQ b → a.Perm b → a = b
  | [], b, _, _, p => (List.Perm.nil_eq p)
  | x :: a, [], _, _, p => absurd p.length_eq (by simp)
  | x :: a, y :: b, sa, sb, p => by
    obtain ⟨a1, a2⟩ := List.pairwise_cons.mp sa
    obtain ⟨b1, b2⟩ := List.pairwise_cons.mp sb
    have e : x = y := by
      rcases List.mem_cons.mp (p.mem_iff.mp (List.mem_cons_self (a := x) (l := a))) with z | hx
      · exact z
      · rcases List.mem_cons.mp (p.mem_iff.mpr (List.mem_cons_self (a := y) (l := b))) with z | hy
        · exact z.symm
        · have h1 := SrtO.lexB_no.mp (a1 y hy)
          have h2 := SrtO.lexB_no.mp (b1 x hx)
          exact Prod.ext (by omega) (by omega)
    subst e
    rw [srt_uniq a2 b2 (List.Perm.cons_inv p)]
end Hd
set_option maxHeartbeats 4000000
/-! The events of a sum's standings, and what the divisors tell of them. -/
namespace Hd
/-- the odd part and the twos of a number, the order of two by an odd one -/
noncomputable def oP (d : Nat) : Nat := if h : 0 < d then Classical.choose (twos_some d h) else 1
noncomputable def tP (d : Nat) : Nat := if h : 0 < d then Classical.choose (Classical.choose_spec (twos_some d h)) else 0
theorem parts {d : Nat} (h : 0 < d) : d = oP d * 2 ^ tP d ∧ oP d % 2 = 1 := by
  unfold oP tP
  rw [dif_pos h, dif_pos h]
  exact Classical.choose_spec (Classical.choose_spec (twos_some d h))
theorem parts_one {d o t : Nat} (h : d = o * 2 ^ t) (ho : o % 2 = 1) : oP d = o ∧ tP d = t := by
  have d0 : 0 < d := by rw [h]; exact Nat.mul_pos (by omega) (Nat.pow_pos (by decide))
  obtain ⟨a, b⟩ := parts d0
  obtain ⟨e1, e2⟩ := part_one b ho (a.symm.trans h)
  exact ⟨e1, e2⟩
noncomputable def oR (o : Nat) : Nat := if h : o % 2 = 1 then Classical.choose (ord_some h) else 0
theorem oR_ord {o : Nat} (h : o % 2 = 1) : Ord o (oR o) := by
  unfold oR
  rw [dif_pos h]
  exact (Classical.choose_spec (ord_some h)).2
theorem oR_le {o : Nat} (h : o % 2 = 1) : oR o ≤ o := by
  unfold oR
  rw [dif_pos h]
  exact (Classical.choose_spec (ord_some h)).1
def cls (n x : Nat) : Nat := n / Nat.gcd x n
noncomputable def evR (n x : Nat) : List (Nat × Nat) := if oP (cls n x) ≠ 1 ∧ tP (cls n x) = 0 then [(oR (oP (cls n x)), 1)] else []
noncomputable def evT (n x : Nat) : List (Nat × Nat) := if oP (cls n x) ≠ 1 then [(tP (cls n x), 1)] else []
noncomputable def evE (n x : Nat) : List (Nat × Nat) := if oP (cls n x) = 1 then [(tP (cls n x), 1)] else []
/-- the events of 1, 2, .. (i of them) -/
def evs (ev : Nat → List (Nat × Nat)) (i : Nat) : List (Nat × Nat) := (List.range i).flatMap fun j => ev (1 + j)
theorem evs_succ (ev : Nat → List (Nat × Nat)) (i : Nat) : evs ev (i + 1) = evs ev i ++ ev (1 + i) := by
  unfold evs
  rw [List.range_succ, List.flatMap_append]
  simp
theorem wsum_evs (ev : Nat → List (Nat × Nat)) (k : Nat) : ∀ i, wsum (evs ev i) k = ((List.range i).map fun j => wsum (ev (1 + j)) k).sum
  | 0 => rfl
  | i + 1 => by rw [evs_succ, wsum_app, wsum_evs ev k i, List.range_succ, List.map_append, List.sum_append]; simp
theorem mem_evs {ev : Nat → List (Nat × Nat)} {i : Nat} {e : Nat × Nat} : e ∈ evs ev i ↔ ∃ x, 1 ≤ x ∧ x < i + 1 ∧ e ∈ ev x := by
  unfold evs
  rw [List.mem_flatMap]
  constructor
  · rintro ⟨j, hj, h⟩
    have := List.mem_range.mp hj
    exact ⟨1 + j, by omega, by omega, h⟩
  · rintro ⟨x, h1, h2, h⟩
    exact ⟨x - 1, List.mem_range.mpr (by omega), by rw [show 1 + (x - 1) = x by omega]; exact h⟩
/-- from 1 on, or from 0 where 0 has none -/
theorem sum_from {f : Nat → Nat} (h0 : f 0 = 0) (i : Nat) : ((List.range i).map fun j => f (1 + j)).sum = ((List.range (i + 1)).map f).sum := by
  rw [List.range_succ_eq_map, List.map_cons, List.sum_cons, h0, Nat.zero_add, List.map_map]
  refine sum_map_congr fun x _ => ?_
  show f (1 + x) = f (x + 1)
  rw [Nat.add_comm]
theorem sum_cnt (p : Nat → Bool) : ∀ n, ((List.range n).map fun x => if p x = true then 1 else 0).sum = cnt n p
  | 0 => rfl
  | n + 1 => by rw [List.range_succ, List.map_append, List.sum_append, sum_cnt p n, cnt_succ]; simp
theorem cls_zero {n : Nat} (hn : 0 < n) : cls n 0 = 1 := by
  unfold cls
  rw [Nat.gcd_zero_left, Nat.div_self hn]
theorem cls_dvd (n x : Nat) : cls n x ∣ n := Nat.div_dvd_of_dvd (Nat.gcd_dvd_right _ _)
theorem cls_pos {n : Nat} (hn : 0 < n) (x : Nat) : 0 < cls n x := Nat.pos_of_dvd_of_pos (cls_dvd n x) hn
theorem one_parts : oP 1 = 1 ∧ tP 1 = 0 := parts_one (by decide) (by decide)
theorem cls_one {n x : Nat} (hn : 0 < n) (h : cls n x = 1) : n ∣ x := by
  have g := Nat.div_mul_cancel (Nat.gcd_dvd_right x n)
  have h' : n / Nat.gcd x n = 1 := h
  rw [h', Nat.one_mul] at g
  rw [← g]
  exact Nat.gcd_dvd_left _ _
/-- so many have a class that divides m -/
theorem cnt_cls {n m : Nat} (hn : 0 < n) (hm : m ∣ n) : cnt n (fun x => decide (cls n x ∣ m)) = m := by
  obtain ⟨g, rfl⟩ := hm
  have m0 : 0 < m := Nat.pos_of_mul_pos_right hn
  have g0 : 0 < g := Nat.pos_of_mul_pos_left hn
  have e : cnt m (fun _ => true) = m := by
    unfold cnt
    rw [List.countP_true, List.length_range]
  refine Eq.trans ?_ e
  rw [← cnt_mul g0 m, Nat.mul_comm m g]
  refine cnt_congr fun x _ => ?_
  rw [Bool.and_true, Bool.eq_iff_iff, decide_eq_true_eq, decide_eq_true_eq]
  have d1 := Nat.gcd_dvd_right x (g * m)
  have gp : 0 < Nat.gcd x (g * m) := Nat.gcd_pos_of_pos_right _ (by rw [Nat.mul_comm]; exact hn)
  have d2 := Nat.div_mul_cancel d1
  constructor
  · rintro ⟨q, hq⟩
    -- g * m = cls * gcd, m = cls * q: so g * q = gcd
    have hq' : m = (g * m / Nat.gcd x (g * m)) * q := hq
    have c0 : 0 < g * m / Nat.gcd x (g * m) := Nat.div_pos (Nat.le_of_dvd (by rw [Nat.mul_comm]; exact hn) d1) gp
    have : g * q = Nat.gcd x (g * m) := by
      refine Nat.eq_of_mul_eq_mul_left c0 ?_
      rw [Nat.mul_left_comm, ← hq', d2]
    refine Nat.dvd_trans ⟨q, this.symm⟩ (Nat.gcd_dvd_left _ _)
  · intro h
    have h2 : g ∣ Nat.gcd x (g * m) := Nat.dvd_gcd h (Nat.dvd_mul_right _ _)
    obtain ⟨q, hq⟩ := h2
    refine ⟨q, ?_⟩
    show m = g * m / Nat.gcd x (g * m) * q
    refine Nat.eq_of_mul_eq_mul_left g0 ?_
    rw [Nat.mul_left_comm, ← hq, d2]
theorem dvd_class {n odd T t d : Nat} (e : n = odd * 2 ^ T) (ho : odd % 2 = 1) (hd : d ∣ n) (d0 : 0 < d) (ht : t ≤ T) : (d ∣ odd * 2 ^ t ↔ tP d ≤ t) ∧ (d ∣ 2 ^ t ↔ oP d = 1 ∧ tP d ≤ t) := by
  obtain ⟨p1, p2⟩ := parts d0
  rw [e, p1, Nat.mul_comm odd] at hd
  obtain ⟨q1, q2⟩ := (part_dvd p2 ho).mp hd
  refine ⟨?_, ?_⟩
  · rw (occs := [1]) [p1]
    rw [Nat.mul_comm odd, part_dvd p2 ho]
    exact ⟨fun h => h.1, fun h => ⟨h, q2⟩⟩
  · rw (occs := [1]) [p1]
    exact part_pow p2
/-- the share of a tail -/
def sh (t : Nat) : Nat := if t = 0 then 1 else 2 ^ (t - 1)
theorem sh_pos (t : Nat) : 0 < sh t := by
  unfold sh
  split
  · decide
  · exact Nat.pow_pos (by decide)
/-- so many end with t, so many do not end and have the tail t -/
theorem cnt_parts {n odd T : Nat} (e : n = odd * 2 ^ T) (ho : odd % 2 = 1) (t : Nat) (ht : t ≤ T) :
    cnt n (fun x => decide (tP (cls n x) = t) && decide (oP (cls n x) = 1)) = sh t ∧ cnt n (fun x => decide (tP (cls n x) = t) && !decide (oP (cls n x) = 1)) = (odd - 1) * sh t := by
  have hn : 0 < n := by rw [e]; exact Nat.mul_pos (by omega) (Nat.pow_pos (by decide))
  have hcl : ∀ x t, t ≤ T → (cls n x ∣ odd * 2 ^ t ↔ tP (cls n x) ≤ t) ∧ (cls n x ∣ 2 ^ t ↔ oP (cls n x) = 1 ∧ tP (cls n x) ≤ t) := fun x t h => dvd_class e ho (cls_dvd n x) (cls_pos hn x) h
  have dv : ∀ s, s ≤ T → odd * 2 ^ s ∣ n := fun s h => by
    rw [e]
    exact Nat.mul_dvd_mul_left _ (Nat.pow_dvd_pow 2 h)
  have dv2 : ∀ s, s ≤ T → 2 ^ s ∣ n := fun s h => Nat.dvd_trans (Nat.dvd_mul_left _ _) (dv s h)
  have A : ∀ s, s ≤ T → cnt n (fun x => decide (tP (cls n x) ≤ s)) = odd * 2 ^ s := fun s h => by
    rw [← cnt_cls hn (dv s h)]
    exact cnt_congr fun x _ => decide_eq_decide.mpr (hcl x s h).1.symm
  have B : ∀ s, s ≤ T → cnt n (fun x => decide (tP (cls n x) ≤ s) && decide (oP (cls n x) = 1)) = 2 ^ s := fun s h => by
    rw [← cnt_cls hn (dv2 s h)]
    refine cnt_congr fun x _ => ?_
    rw [Bool.eq_iff_iff, Bool.and_eq_true, decide_eq_true_eq, decide_eq_true_eq, decide_eq_true_eq, (hcl x s h).2]
    exact And.comm
  have sp := cnt_split n (fun x => decide (tP (cls n x) = t)) fun x => decide (oP (cls n x) = 1)
  cases t with
  | zero =>
    have a := A 0 ht
    have b := B 0 ht
    have ea : cnt n (fun x => decide (tP (cls n x) ≤ 0)) = cnt n (fun x => decide (tP (cls n x) = 0)) := cnt_congr fun x _ => decide_eq_decide.mpr (by omega)
    have eb : cnt n (fun x => decide (tP (cls n x) ≤ 0) && decide (oP (cls n x) = 1)) = cnt n (fun x => decide (tP (cls n x) = 0) && decide (oP (cls n x) = 1)) := cnt_congr fun x _ => by
      rw [decide_eq_decide.mpr (show tP (cls n x) ≤ 0 ↔ tP (cls n x) = 0 by omega)]
    rw [ea] at a
    rw [eb] at b
    simp only [Nat.pow_zero, Nat.mul_one] at a b
    refine ⟨b, ?_⟩
    show _ = (odd - 1) * 1
    omega
  | succ t =>
    have a1 := A (t + 1) ht
    have a0 := A t (by omega)
    have b1 := B (t + 1) ht
    have b0 := B t (by omega)
    have s1 := cnt_split n (fun x => decide (tP (cls n x) ≤ t + 1)) fun x => decide (tP (cls n x) ≤ t)
    have s2 := cnt_split n (fun x => decide (tP (cls n x) ≤ t + 1) && decide (oP (cls n x) = 1)) fun x => decide (tP (cls n x) ≤ t)
    have c1 : cnt n (fun x => decide (tP (cls n x) ≤ t + 1) && decide (tP (cls n x) ≤ t)) = cnt n (fun x => decide (tP (cls n x) ≤ t)) := cnt_congr fun x _ => by
      rw [Bool.eq_iff_iff, Bool.and_eq_true, decide_eq_true_eq, decide_eq_true_eq]
      omega
    have c2 : cnt n (fun x => decide (tP (cls n x) ≤ t + 1) && !decide (tP (cls n x) ≤ t)) = cnt n (fun x => decide (tP (cls n x) = t + 1)) := cnt_congr fun x _ => by
      rw [Bool.eq_iff_iff, Bool.and_eq_true, decide_eq_true_eq, decide_eq_true_eq, Bool.not_eq_true', decide_eq_false_iff_not]
      omega
    have c3 : cnt n (fun x => (decide (tP (cls n x) ≤ t + 1) && decide (oP (cls n x) = 1)) && decide (tP (cls n x) ≤ t)) = cnt n (fun x => decide (tP (cls n x) ≤ t) && decide (oP (cls n x) = 1)) := cnt_congr fun x _ => by
      rw [Bool.eq_iff_iff]
      simp only [Bool.and_eq_true, decide_eq_true_eq]
      omega
    have c4 : cnt n (fun x => (decide (tP (cls n x) ≤ t + 1) && decide (oP (cls n x) = 1)) && !decide (tP (cls n x) ≤ t)) = cnt n (fun x => decide (tP (cls n x) = t + 1) && decide (oP (cls n x) = 1)) := cnt_congr fun x _ => by
      rw [Bool.eq_iff_iff]
      simp only [Bool.and_eq_true, decide_eq_true_eq, Bool.not_eq_true', decide_eq_false_iff_not]
      omega
    have es : sh (t + 1) = 2 ^ t := by
      unfold sh
      rw [if_neg (by omega), Nat.add_sub_cancel]
    have em : (odd - 1) * 2 ^ t = odd * 2 ^ t - 2 ^ t := by rw [Nat.sub_mul, Nat.one_mul]
    have ep : 2 ^ (t + 1) = 2 ^ t + 2 ^ t := by rw [Nat.pow_succ]; omega
    have eo : odd * 2 ^ (t + 1) = odd * 2 ^ t + odd * 2 ^ t := by rw [ep, Nat.mul_add]
    rw [es, em]
    have : 2 ^ t ≤ odd * 2 ^ t := Nat.le_mul_of_pos_left _ (by omega)
    omega
end Hd
set_option maxHeartbeats 4000000
/-! What the walks count is what the divisors tell. -/
namespace Hd
open PySem PySem.Spec PyProof.Rows L2
/-- the sum, its odd part and its twos -/
structure Tot (n odd T : Nat) : Prop where
  eq : n = odd * 2 ^ T
  odd : odd % 2 = 1
theorem Tot.pos {n odd T : Nat} (h : Tot n odd T) : 0 < n := by
  rw [h.eq]
  exact Nat.mul_pos (by have := h.odd; omega) (Nat.pow_pos (by decide))
theorem Tot.od {n odd T : Nat} (h : Tot n odd T) : odd ∣ n := by
  rw [h.eq]
  exact Nat.dvd_mul_right _ _
theorem tot_some {n : Nat} (h : 0 < n) : ∃ odd T, Tot n odd T := by
  obtain ⟨o, t, e, ho⟩ := twos_some n h
  exact ⟨o, t, e, ho⟩
theorem Tot.cls {n odd T : Nat} (h : Tot n odd T) (x : Nat) : oP (cls n x) ∣ odd ∧ tP (cls n x) ≤ T ∧ oP (cls n x) % 2 = 1 ∧ cls n x = oP (cls n x) * 2 ^ tP (cls n x) := by
  obtain ⟨p1, p2⟩ := parts (cls_pos h.pos x)
  have hd : oP (Hd.cls n x) * 2 ^ tP (Hd.cls n x) ∣ 2 ^ T * odd := by
    rw [← p1, ← h.eq.trans (Nat.mul_comm odd (2 ^ T))]
    exact cls_dvd n x
  obtain ⟨q1, q2⟩ := (part_dvd p2 h.odd).mp hd
  exact ⟨q2, q1, p2, p1⟩
theorem divs_parts {odd d : Nat} (ho : odd % 2 = 1) (h : d ∈ divs odd) : oP d = d ∧ tP d = 0 := parts_one (by simp) (divs_odd ho h).1
/-! ### rings -/
noncomputable def esP (odd : Nat) : List (Nat × Nat) := (divs odd).map fun d => (oR d, phi d / oR d)
theorem evR_wsum (n x k : Nat) : wsum (evR n x) k = (fun d => if oP d ≠ 1 ∧ tP d = 0 ∧ oR (oP d) = k then 1 else 0) (cls n x) := by
  unfold evR
  dsimp only
  by_cases c : oP (cls n x) ≠ 1 ∧ tP (cls n x) = 0
  · rw [if_pos c, wsum_one]
    dsimp only
    by_cases e : oR (oP (cls n x)) = k
    · rw [if_pos e, if_pos ⟨c.1, c.2, e⟩]
    · rw [if_neg e, if_neg fun z => e z.2.2]
  · rw [if_neg c, if_neg fun z => c ⟨z.1, z.2.1⟩]
    rfl
theorem ring_sum {n odd T : Nat} (h : Tot n odd T) (k : Nat) : wsum (evs (evR n) (n - 1)) k = ((divs odd).map fun d => if oR d = k then phi d else 0).sum := by
  rw [wsum_evs]
  have hn := h.pos
  have e1 : ((List.range (n - 1)).map fun j => wsum (evR n (1 + j)) k).sum = ((List.range (n - 1)).map fun j => (fun x => (fun d => if oP d ≠ 1 ∧ tP d = 0 ∧ oR (oP d) = k then 1 else 0) (cls n x)) (1 + j)).sum := sum_map_congr fun j _ => evR_wsum n (1 + j) k
  have e3 := sum_from (f := fun x => (fun d => if oP d ≠ 1 ∧ tP d = 0 ∧ oR (oP d) = k then 1 else 0) (cls n x)) (by dsimp only; rw [cls_zero hn, one_parts.1, if_neg fun z => z.1 rfl]) (n - 1)
  refine (e1.trans e3).trans ?_
  rw [show n - 1 + 1 = n by omega]
  have e2 := sum_odd hn h.odd h.od (fun d => if oP d ≠ 1 ∧ tP d = 0 ∧ oR (oP d) = k then 1 else 0) fun x hx hne => by
    have c : oP (cls n x) ≠ 1 ∧ tP (cls n x) = 0 ∧ oR (oP (cls n x)) = k := Classical.byContradiction fun z => hne (if_neg z)
    obtain ⟨a1, a2, a3, a4⟩ := h.cls x
    rw [c.2.1, Nat.pow_zero, Nat.mul_one] at a4
    show cls n x ∈ divs odd
    rw [mem_divs h.odd, a4]
    refine ⟨a1, ?_⟩
    have := c.1
    omega
  refine Eq.trans e2 (sum_map_congr fun d hd => ?_)
  obtain ⟨p1, p2⟩ := divs_parts h.odd hd
  have d3 := divs_odd h.odd hd
  rw [p1, p2]
  by_cases e : oR d = k
  · rw [if_pos e, if_pos ⟨by omega, rfl, e⟩, Nat.one_mul]
  · rw [if_neg e, if_neg fun z => e z.2.2, Nat.zero_mul]
theorem ring_keys {n odd T : Nat} (h : Tot n odd T) (k : Nat) : (∃ e ∈ evs (evR n) (n - 1), e.1 = k) ↔ ∃ d ∈ divs odd, oR d = k := by
  have hn := h.pos
  constructor
  · rintro ⟨e, he, rfl⟩
    obtain ⟨x, h1, h2, hx⟩ := mem_evs.mp he
    unfold evR at hx
    split at hx
    · rename_i c
      have ex : e = (oR (oP (cls n x)), 1) := by simpa using hx
      obtain ⟨a1, a2, a3, a4⟩ := h.cls x
      exact ⟨oP (cls n x), (mem_divs h.odd).mpr ⟨a1, by have := c.1; omega⟩, by rw [ex]⟩
    · cases hx
  · rintro ⟨d, hd, rfl⟩
    have hdv := (mem_divs h.odd).mp hd
    obtain ⟨p1, p2⟩ := divs_parts h.odd hd
    have dn := Nat.dvd_trans hdv.1 h.od
    obtain ⟨g, eg⟩ := dn
    have d0 : 0 < d := by omega
    have g0 : 0 < g := by
      rcases Nat.eq_zero_or_pos g with z | z
      · rw [z] at eg
        omega
      · exact z
    have ec : cls n g = d := by
      unfold cls
      rw [eg, Nat.gcd_comm, Nat.gcd_mul_left_left, Nat.mul_div_cancel _ g0]
    have gn : g < n := by
      rw [eg]
      have := Nat.mul_le_mul_right g (show 2 ≤ d by omega)
      omega
    refine ⟨(oR d, 1), mem_evs.mpr ⟨g, g0, by omega, ?_⟩, rfl⟩
    unfold evR
    rw [ec, p1, p2, if_pos ⟨by omega, rfl⟩]
    exact List.mem_cons_self
theorem oR_pos {odd d : Nat} (ho : odd % 2 = 1) (h : d ∈ divs odd) : 0 < oR d ∧ oR d ∣ phi d := by
  have d3 := divs_odd ho h
  have O := oR_ord d3.1
  exact ⟨O.pos, ord_phi (by omega) d3.1 O⟩
theorem esP_sum {odd : Nat} (ho : odd % 2 = 1) (k : Nat) : k * wsum (esP odd) k = ((divs odd).map fun d => if oR d = k then phi d else 0).sum := by
  unfold esP wsum
  rw [List.map_map]
  have : ∀ l : List Nat, (∀ d ∈ l, d ∈ divs odd) → k * (l.map ((fun e : Nat × Nat => if e.1 = k then e.2 else 0) ∘ fun d => (oR d, phi d / oR d))).sum = (l.map fun d => if oR d = k then phi d else 0).sum := fun l => by
    induction l with
    | nil => intro _; rfl
    | cons d l ih =>
      intro hl
      rw [List.map_cons, List.map_cons, List.sum_cons, List.sum_cons, Nat.mul_add, ih fun x hx => hl x (List.mem_cons_of_mem _ hx)]
      congr 1
      show k * (if oR d = k then phi d / oR d else 0) = _
      by_cases e : oR d = k
      · rw [if_pos e, if_pos e, ← e, Nat.mul_div_cancel' (oR_pos ho (hl d List.mem_cons_self)).2]
      · rw [if_neg e, if_neg e, Nat.mul_zero]
  exact this _ fun _ h => h
theorem esP_keys (odd k : Nat) : (∃ e ∈ esP odd, e.1 = k) ↔ ∃ d ∈ divs odd, oR d = k := by
  unfold esP
  constructor
  · rintro ⟨e, he, rfl⟩
    obtain ⟨d, hd, rfl⟩ := List.mem_map.mp he
    exact ⟨d, hd, rfl⟩
  · rintro ⟨d, hd, rfl⟩
    exact ⟨_, List.mem_map.mpr ⟨d, hd, rfl⟩, rfl⟩
theorem esP_whole {odd : Nat} (ho : odd % 2 = 1) : ((esP odd).map fun e => e.1 * e.2).sum = odd - 1 := by
  rw [← gauss ho]
  unfold esP
  rw [List.map_map]
  refine sum_map_congr fun d hd => ?_
  show oR d * (phi d / oR d) = phi d
  exact Nat.mul_div_cancel' (oR_pos ho hd).2
/-- the value of a ring's length -/
theorem ring_val {n odd T k : Nat} (h : Tot n odd T) (hk : ∃ d ∈ divs odd, oR d = k) : wsum (evs (evR n) (n - 1)) k / k = wsum (esP odd) k := by
  obtain ⟨d, hd, rfl⟩ := hk
  rw [ring_sum h, ← esP_sum h.odd, Nat.mul_div_cancel_left _ (oR_pos h.odd hd).1]
/-! ### tails and ends -/
theorem evT_wsum (n x k : Nat) : wsum (evT n x) k = if (decide (tP (cls n x) = k) && !decide (oP (cls n x) = 1)) = true then 1 else 0 := by
  unfold evT
  by_cases c : oP (cls n x) = 1
  · rw [if_neg (fun z => z c), decide_eq_true c, Bool.not_true, Bool.and_false, if_neg (by decide)]
    rfl
  · rw [if_pos c, wsum_one, decide_eq_false c, Bool.not_false, Bool.and_true]
    simp only [decide_eq_true_eq]
theorem evE_wsum (n x k : Nat) : wsum (evE n x) k = if (decide (tP (cls n x) = k) && decide (oP (cls n x) = 1)) = true then 1 else 0 := by
  unfold evE
  by_cases c : oP (cls n x) = 1
  · rw [if_pos c, wsum_one, decide_eq_true c, Bool.and_true]
    simp only [decide_eq_true_eq]
  · rw [if_neg c, decide_eq_false c, Bool.and_false, if_neg (by decide)]
    rfl
theorem tail_sum {n odd T k : Nat} (h : Tot n odd T) (hk : k ≤ T) : wsum (evs (evT n) (n - 1)) k = (odd - 1) * sh k := by
  rw [wsum_evs, sum_map_congr fun j _ => evT_wsum n (1 + j) k]
  have := sum_from (f := fun x => if (decide (tP (cls n x) = k) && !decide (oP (cls n x) = 1)) = true then 1 else 0) (by rw [cls_zero h.pos, decide_eq_true one_parts.1, Bool.not_true, Bool.and_false, if_neg (by decide)]) (n - 1)
  have hn := h.pos
  refine this.trans ?_
  rw [show n - 1 + 1 = n by omega, sum_cnt]
  exact (cnt_parts h.eq h.odd k hk).2
theorem end_sum {n odd T k : Nat} (h : Tot n odd T) (hk : k ≤ T) (h0 : k ≠ 0) : wsum (evs (evE n) (n - 1)) k = sh k := by
  rw [wsum_evs, sum_map_congr fun j _ => evE_wsum n (1 + j) k]
  have := sum_from (f := fun x => if (decide (tP (cls n x) = k) && decide (oP (cls n x) = 1)) = true then 1 else 0) (by rw [cls_zero h.pos, one_parts.2, decide_eq_false (fun z => h0 z.symm), Bool.false_and, if_neg (by decide)]) (n - 1)
  have hn := h.pos
  refine this.trans ?_
  rw [show n - 1 + 1 = n by omega, sum_cnt]
  exact (cnt_parts h.eq h.odd k hk).1
theorem tail_keys {n odd T k : Nat} (h : Tot n odd T) : (∃ e ∈ evs (evT n) (n - 1), e.1 = k) ↔ odd ≠ 1 ∧ k ≤ T := by
  constructor
  · rintro ⟨e, he, rfl⟩
    obtain ⟨x, h1, h2, hx⟩ := mem_evs.mp he
    obtain ⟨a1, a2, a3, a4⟩ := h.cls x
    unfold evT at hx
    split at hx
    · rename_i c
      have ex : e = (tP (cls n x), 1) := by simpa using hx
      rw [ex]
      refine ⟨fun z => c ?_, a2⟩
      rw [z] at a1
      exact Nat.dvd_one.mp a1
    · cases hx
  · rintro ⟨h1, h2⟩
    refine Classical.byContradiction fun z => ?_
    have a := wsum_none z
    rw [tail_sum h h2] at a
    have := Nat.mul_pos (show 0 < odd - 1 by have := h.odd; omega) (sh_pos k)
    omega
theorem end_keys {n odd T k : Nat} (h : Tot n odd T) : (∃ e ∈ evs (evE n) (n - 1), e.1 = k) ↔ 0 < k ∧ k ≤ T := by
  have hn := h.pos
  constructor
  · rintro ⟨e, he, rfl⟩
    obtain ⟨x, h1, h2, hx⟩ := mem_evs.mp he
    obtain ⟨a1, a2, a3, a4⟩ := h.cls x
    unfold evE at hx
    split at hx
    · rename_i c
      have ex : e = (tP (cls n x), 1) := by simpa using hx
      rw [ex]
      refine ⟨?_, a2⟩
      rcases Nat.eq_zero_or_pos (tP (cls n x)) with z | z
      · rw [c, z] at a4
        have := Nat.le_of_dvd (by omega) (cls_one (x := x) hn (by simpa using a4))
        omega
      · exact z
    · cases hx
  · rintro ⟨h1, h2⟩
    refine Classical.byContradiction fun z => ?_
    have a := wsum_none z
    rw [end_sum h h2 (by omega)] at a
    have := sh_pos k
    omega
/-! ### as lists -/
def pT (odd T : Nat) : List (Nat × Nat) := if odd = 1 then [] else (List.range (T + 1)).map fun t => (t, (odd - 1) * sh t)
def pE (T : Nat) : List (Nat × Nat) := ((List.range (T + 1)).filter fun t => decide (0 < t)).map fun t => (t, sh t)
def c2 (p : Nat × Nat) : Int × Int := ((p.1 : Int), (p.2 : Int))
theorem keys_nodup {ps : List (Nat × Nat)} (h : (ps.map (·.1)).Nodup) : ps.Nodup := by
  rw [List.nodup_iff_pairwise_ne] at h ⊢
  rw [List.pairwise_map] at h
  exact List.Pairwise.imp (fun {a b} z e => z (by rw [e])) h
theorem sorted_fn (f : Nat → Nat) {l : List Nat} (h : l.Pairwise (· ≤ ·)) : SrtQ ((l.map fun t => (t, f t)).map c2) := by
  unfold SrtQ
  rw [List.pairwise_map, List.pairwise_map]
  refine List.Pairwise.imp (fun {a b} (hab : a ≤ b) => ?_) h
  refine SrtO.lexB_no.mpr ?_
  show ¬ (((b : Int) < (a : Int)) ∨ ((b : Int) = (a : Int) ∧ ((f b : Nat) : Int) < ((f a : Nat) : Int)))
  by_cases c : a = b
  · subst c
    omega
  · omega
theorem fn_nodup (f : Nat → Nat) {l : List Nat} (h : l.Nodup) : (l.map fun t => (t, f t)).Nodup := by
  rw [List.nodup_iff_pairwise_ne] at h ⊢
  rw [List.pairwise_map]
  exact List.Pairwise.imp (fun {a b} z e => z (Prod.mk.inj e).1) h
theorem range_le (n : Nat) : (List.range n).Pairwise (· ≤ ·) := List.Pairwise.imp (fun h => Nat.le_of_lt h) List.pairwise_lt_range
theorem tails_one {n odd T : Nat} {ps : List (Nat × Nat)} {qs : List (Int × Int)} (h : Tot n odd T) (D : Dic ps (evs (evT n) (n - 1))) (hs : SrtQ qs) (hp : qs.Perm (ps.map c2)) : qs = (pT odd T).map c2 := by
  have hm : ps.Perm (pT odd T) := by
    unfold pT
    by_cases c : odd = 1
    · rw [if_pos c]
      have : ps = [] := by
        cases ps with
        | nil => rfl
        | cons p ps =>
          have := ((D.mem p.1 p.2).mp List.mem_cons_self).1
          exact absurd c ((tail_keys h).mp this).1
      rw [this]
    · rw [if_neg c]
      refine (List.perm_ext_iff_of_nodup (keys_nodup D.nd) (fn_nodup _ List.nodup_range)).mpr fun p => ?_
      obtain ⟨k, v⟩ := p
      rw [D.mem, tail_keys h, List.mem_map]
      constructor
      · rintro ⟨⟨_, h2⟩, h3⟩
        rw [tail_sum h h2] at h3
        exact ⟨k, List.mem_range.mpr (by omega), by rw [h3]⟩
      · rintro ⟨t, ht, e⟩
        cases e
        have := List.mem_range.mp ht
        exact ⟨⟨c, by omega⟩, by rw [tail_sum h (by omega)]⟩
  refine srt_uniq hs ?_ (hp.trans (hm.map c2))
  unfold pT
  split
  · exact List.Pairwise.nil
  · exact sorted_fn _ (range_le _)
theorem ends_one {n odd T : Nat} {ps : List (Nat × Nat)} {qs : List (Int × Int)} (h : Tot n odd T) (D : Dic ps (evs (evE n) (n - 1))) (hs : SrtQ qs) (hp : qs.Perm (ps.map c2)) : qs = (pE T).map c2 := by
  have hm : ps.Perm (pE T) := by
    unfold pE
    refine (List.perm_ext_iff_of_nodup (keys_nodup D.nd) (fn_nodup _ (List.Pairwise.filter _ List.nodup_range))).mpr fun p => ?_
    obtain ⟨k, v⟩ := p
    rw [D.mem, end_keys h, List.mem_map]
    constructor
    · rintro ⟨⟨h1, h2⟩, h3⟩
      rw [end_sum h h2 (by omega)] at h3
      exact ⟨k, List.mem_filter.mpr ⟨List.mem_range.mpr (by omega), decide_eq_true h1⟩, by rw [h3]⟩
    · rintro ⟨t, ht, e⟩
      cases e
      obtain ⟨t1, t2⟩ := List.mem_filter.mp ht
      have t1 := List.mem_range.mp t1
      have t2 := of_decide_eq_true t2
      exact ⟨⟨t2, by omega⟩, by rw [end_sum h (by omega) (by omega)]⟩
  refine srt_uniq hs ?_ (hp.trans (hm.map c2))
  unfold pE
  exact sorted_fn _ (List.Pairwise.filter _ (range_le _))
/-- the law's row of rings is the program's -/
theorem rings_one {n odd T : Nat} {psL psP : List (Nat × Nat)} {qsP : List (Int × Int)} {ks : List Nat} (h : Tot n odd T) (DL : Dic psL (evs (evR n) (n - 1))) (DP : Dic psP (esP odd)) (hs : SrtQ qsP) (hp : qsP.Perm (psP.map c2)) (hk : ks.Perm (psL.map (·.1))) (hks : ks.Pairwise (· ≤ ·)) :
    qsP = (ks.map fun k => (k, wsum (evs (evR n) (n - 1)) k / k)).map c2 := by
  refine srt_uniq hs (sorted_fn _ hks) (hp.trans (List.Perm.map c2 ?_))
  refine (List.perm_ext_iff_of_nodup (keys_nodup DP.nd) (fn_nodup _ (hk.nodup_iff.mpr DL.nd))).mpr fun p => ?_
  obtain ⟨k, v⟩ := p
  have hkey : k ∈ ks ↔ ∃ d ∈ divs odd, oR d = k := by
    rw [hk.mem_iff, List.mem_map, ← ring_keys h]
    constructor
    · rintro ⟨⟨a, b⟩, hp, rfl⟩
      exact ((DL.mem a b).mp hp).1
    · intro hx
      exact ⟨(k, _), (DL.mem k _).mpr ⟨hx, rfl⟩, rfl⟩
  rw [DP.mem, esP_keys, List.mem_map]
  constructor
  · rintro ⟨h1, h2⟩
    exact ⟨k, hkey.mpr h1, by rw [h2, ring_val h h1]⟩
  · rintro ⟨t, ht, e⟩
    cases e
    have h1 := hkey.mp ht
    exact ⟨h1, ring_val h h1⟩
end Hd
set_option maxHeartbeats 4000000
/-! A sleeping generator stays as it is while code runs that knows nothing of it: what holds of a run over ANY table of bare generators holds over one whose
sleepers cannot be woken; so the run wakes none, and over the true table it goes alike. -/
namespace Hd
open PySem PySem.Spec PyProof.Rows L2
open Sem (wp)

/-- this sleeper cannot be woken -/
def Stone (x : GenState) : Prop := ∃ k l c p fs cl, x = .suspended k l c p fs cl ∧ ∀ r, ∃ m, k r = .unsupported m
def Twin (x y : GenState) : Prop :=
  (x = y ∧ ∀ k l c p fs cl, x = .suspended k l c p fs cl → splitAtGen fs = none) ∨ (Stone x ∧ ∃ k k' l c p fs cl, x = .suspended k l c p fs cl ∧ y = .suspended k' l c p fs cl)
def Twins (G G' : Array GenState) : Prop := G.size = G'.size ∧ ∀ (i : Nat) (x y : GenState), G[i]? = some x → G'[i]? = some y → Twin x y
def Stay (G G1 G' G1' : Array GenState) : Prop := ∀ (i : Nat) (x y : GenState), G[i]? = some x → G'[i]? = some y → Stone x → G1[i]? = some x ∧ G1'[i]? = some y

theorem Stay.rfl' {G G' : Array GenState} : Stay G G G' G' := fun _ _ _ a b _ => ⟨a, b⟩
theorem Stay.then {G G1 G2 G' G1' G2' : Array GenState} (a : Stay G G1 G' G1') (b : Stay G1 G2 G1' G2') : Stay G G2 G' G2' := fun i x y h h' st =>
  let ⟨e, e'⟩ := a i x y h h' st; b i x y e e' st
theorem Twin.seen {x y : GenState} (h : Twin x y) : x.seen = y.seen := by
  rcases h with ⟨rfl, _⟩ | ⟨_, k, k', l, c, p, fs, cl, rfl, rfl⟩
  · rfl
  · rfl
theorem Twin.bare {x y : GenState} (h : Twin x y) : x.bare = y.bare := by
  rcases h with ⟨rfl, _⟩ | ⟨_, k, k', l, c, p, fs, cl, rfl, rfl⟩
  · rfl
  · rfl
theorem Twins.get {G G' : Array GenState} (h : Twins G G') {i : Nat} {x : GenState} (e : G[i]? = some x) : ∃ y, G'[i]? = some y ∧ Twin x y := by
  have hi : i < G.size := (Array.getElem?_eq_some_iff.mp e).1
  have hi' : i < G'.size := by rw [← h.1]; exact hi
  exact ⟨G'[i], Array.getElem?_eq_getElem hi', h.2 i x _ e (Array.getElem?_eq_getElem hi')⟩
theorem at_set {G : Array GenState} {g : Nat} {x y : GenState} (e : G[g]? = some x) : (G.setIfInBounds g y)[g]? = some y := by
  have hi : g < G.size := (Array.getElem?_eq_some_iff.mp e).1
  simp [hi]
theorem at_other {G : Array GenState} {g i : Nat} {y : GenState} (n : i ≠ g) : (G.setIfInBounds g y)[i]? = G[i]? := Array.getElem?_setIfInBounds_ne (Ne.symm n)
theorem Twins.set {G G' : Array GenState} (h : Twins G G') (g : Nat) (z : GenState) (hz : ∀ k l c p fs cl, z = .suspended k l c p fs cl → splitAtGen fs = none) : Twins (G.setIfInBounds g z) (G'.setIfInBounds g z) := by
  refine ⟨by simp [h.1], fun i x y e e' => ?_⟩
  by_cases n : i = g
  · subst n
    have hi : i < G.size := by have := (Array.getElem?_eq_some_iff.mp e).1; simpa using this
    have hi' : i < G'.size := by rw [← h.1]; exact hi
    have e1 : (G.setIfInBounds i z)[i]? = some z := by simp [hi]
    have e2 : (G'.setIfInBounds i z)[i]? = some z := by simp [hi']
    rw [e1] at e; rw [e2] at e'
    cases e; cases e'
    exact .inl ⟨rfl, hz⟩
  · rw [at_other n] at e e'
    exact h.2 i x y e e'
theorem Stay.set {G G' : Array GenState} {g : Nat} {a z : GenState} (e : G[g]? = some a) (na : ¬ Stone a) : Stay G (G.setIfInBounds g z) G' (G'.setIfInBounds g z) := fun i x y h h' st => by
  have n : i ≠ g := by
    rintro rfl
    rw [e] at h; cases h; exact na st
  rw [at_other n, at_other n]; exact ⟨h, h'⟩
theorem notStone_running : ¬ Stone .running := fun ⟨_, _, _, _, _, _, e, _⟩ => nomatch e
theorem notStone_fresh {c : Code} : ¬ Stone (.fresh c) := fun ⟨_, _, _, _, _, _, e, _⟩ => nomatch e
theorem Stay.through {G G1 G' G1' : Array GenState} {g : Nat} {a z : GenState} (e : G[g]? = some a) (na : ¬ Stone a) (s : Stay (G.setIfInBounds g .running) G1 (G'.setIfInBounds g .running) G1') : Stay G (G1.setIfInBounds g z) G' (G1'.setIfInBounds g z) := fun i x y h h' st => by
  have n : i ≠ g := by
    rintro rfl
    rw [e] at h; cases h; exact na st
  obtain ⟨e1, e2⟩ := s i x y (by rw [at_other n]; exact h) (by rw [at_other n]; exact h') st
  rw [at_other n, at_other n]; exact ⟨e1, e2⟩
theorem Twins.push {G G' : Array GenState} (h : Twins G G') (c : Code) : Twins (G.push (.fresh c)) (G'.push (.fresh c)) := by
  refine ⟨by rw [Array.size_push, Array.size_push, h.1], fun i x y e e' => ?_⟩
  rw [Array.getElem?_push] at e e'
  by_cases n : i = G.size
  · rw [if_pos n] at e; rw [if_pos (n.trans h.1)] at e'
    cases e; cases e'
    exact .inl ⟨rfl, fun _ _ _ _ _ _ z => nomatch z⟩
  · rw [if_neg n] at e; rw [if_neg (by rw [← h.1]; exact n)] at e'
    exact h.2 i x y e e'
theorem Stay.push {G G' : Array GenState} (c : GenState) : Stay G (G.push c) G' (G'.push c) := fun i x y e e' _ => by
  have hi : i < G.size := (Array.getElem?_eq_some_iff.mp e).1
  have hi' : i < G'.size := (Array.getElem?_eq_some_iff.mp e').1
  rw [Array.getElem?_push, Array.getElem?_push, if_neg (Nat.ne_of_lt hi), if_neg (Nat.ne_of_lt hi')]
  exact ⟨e, e'⟩

theorem split_ret {k : Result → Sem PySem.Fin} {h : Option Value} {g : Bool} {l kp : List Value} {c : Code} {p : Pos} {fs : List Frame} : splitAtGen (.ret k h g l c p kp :: fs) = none ↔ splitAtGen fs = none := by
  show ((splitAtGen fs).map _ = none) ↔ _
  rw [Option.map_eq_none_iff]
theorem split_app : ∀ {fs gs : List Frame}, splitAtGen fs = none → splitAtGen gs = none → splitAtGen (fs ++ gs) = none
  | [], _, _, h => h
  | .ret k h g l c p kp :: fs, gs, a, b => split_ret.mpr (split_app (split_ret.mp a) b)
  | .gen .. :: _, _, a, _ => nomatch a
theorem no_unsup {M : Model} {Γ : PySem.Ctx} {p : Pos} {m : String} {t : Sem PySem.Fin} {fs : List Frame} {s s' : Shared} {e : End} (h : Runs M Γ p t fs s e s') : t ≠ .unsupported m := by
  induction h with
  | segRet _ _ ih _ => exact ih
  | segGen _ _ ih _ => exact ih
  | segSuspOut _ _ ih => exact ih
  | segSuspGen _ _ _ _ ih _ => exact ih
  | _ => exact fun z => nomatch z

def EFree (e : End) : Prop := ∀ v g l k c p fs, e = .susp v g l k c p fs → splitAtGen fs = none
theorem EFree.ret {r : Result} : EFree (.ret r) := fun _ _ _ _ _ _ _ z => nomatch z
theorem EFree.state {e : End} (h : EFree e) : ∀ k l c p fs cl, e.genState = .suspended k l c p fs cl → splitAtGen fs = none := fun k l c p fs cl z => by
  cases e with
  | ret r => exact nomatch z
  | susp v g l' k' c' p' fs' =>
    have z' : GenState.suspended k' l' c' p' fs' (g || fs'.any Frame.guarded) = .suspended k l c p fs cl := z
    injection z' with _ _ _ _ z5 _
    subst z5
    exact h v g l' k' c' p' fs' rfl
theorem setg (s : Shared) (G : Array GenState) (g : Nat) (x : GenState) : ({ s with gens := G } : Shared).setGen g x = { s with gens := G.setIfInBounds g x } := rfl

theorem runs_twin {M : Model} {Γ : PySem.Ctx} {p : Pos} {t : Sem PySem.Fin} {fs : List Frame} {s s1 : Shared} {e : End} (h : Runs M Γ p t fs s e s1) :
    splitAtGen fs = none → ∀ G', Twins s.gens G' → EFree e ∧ ∃ G1', Twins s1.gens G1' ∧ Stay s.gens s1.gens G' G1' ∧ Runs M Γ p t fs { s with gens := G' } e { s1 with gens := G1' } := by
  induction h with
  | done => exact fun _ G' r => ⟨EFree.ret, G', r, Stay.rfl', .done⟩
  | raise => exact fun _ G' r => ⟨EFree.ret, G', r, Stay.rfl', .raise⟩
  | again q _ ih => exact fun f G' r => let ⟨a, G1, b, c, d⟩ := ih f G' r; ⟨a, G1, b, c, .again q d⟩
  | rule _ ih => exact fun f G' r => let ⟨a, G1, b, c, d⟩ := ih f G' r; ⟨a, G1, b, c, .rule d⟩
  | «at» _ ih => exact fun f G' r => let ⟨a, G1, b, c, d⟩ := ih f G' r; ⟨a, G1, b, c, .at d⟩
  | load q _ ih => exact fun f G' r => let ⟨a, G1, b, c, d⟩ := ih f G' r; ⟨a, G1, b, c, .load (by exact q) d⟩
  | update q _ ih => exact fun f G' r => let ⟨a, G1, b, c, d⟩ := ih f G' r; ⟨a, G1, b, c, .update (by exact q) d⟩
  | loadIfAlive _ ih => exact fun f G' r => let ⟨a, G1, b, c, d⟩ := ih f G' r; ⟨a, G1, b, c, .loadIfAlive d⟩
  | point _ ih => exact fun f G' r => let ⟨a, G1, b, c, d⟩ := ih f G' r; ⟨a, G1, b, c, .point d⟩
  | alloc _ ih => exact fun f G' r => let ⟨a, G1, b, c, d⟩ := ih f G' r; ⟨a, G1, b, c, .alloc d⟩
  | fresh _ ih => exact fun f G' r => let ⟨a, G1, b, c, d⟩ := ih f G' r; ⟨a, G1, b, c, .fresh d⟩
  | ask _ ih => exact fun f G' r => let ⟨a, G1, b, c, d⟩ := ih f G' r; ⟨a, G1, b, c, .ask d⟩
  | choose q _ ih => exact fun f G' r => let ⟨a, G1, b, c, d⟩ := ih f G' r; ⟨a, G1, b, c, .choose q d⟩
  | os _ ih => exact fun f G' r => let ⟨a, G1, b, c, d⟩ := ih f G' r; ⟨a, G1, b, c, .os d⟩
  | handled _ ih => exact fun f G' r => let ⟨a, G1, b, c, d⟩ := ih f G' r; ⟨a, G1, b, c, .handled d⟩
  | stack _ ih => exact fun f G' r => let ⟨a, G1, b, c, d⟩ := ih f G' r; ⟨a, G1, b, c, .stack d⟩
  | thread _ ih => exact fun f G' r => let ⟨a, G1, b, c, d⟩ := ih f G' r; ⟨a, G1, b, c, .thread d⟩
  | genState q _ ih =>
    intro f G' r
    obtain ⟨y, hy, tw⟩ := r.get q
    obtain ⟨a, G1, b, c, d⟩ := ih f G' r
    rw [tw.seen] at d
    exact ⟨a, G1, b, c, .genState hy d⟩
  | newGen _ ih =>
    intro f G' r
    obtain ⟨a, G1, b, c', d⟩ := ih f _ (r.push _)
    refine ⟨a, G1, b, (Stay.push _).then c', .newGen ?_⟩
    rw [r.1] at d
    exact d
  | call _ _ ih1 ih2 =>
    intro f G' r
    obtain ⟨_, G1, b1, c1, d1⟩ := ih1 rfl G' r
    obtain ⟨a, G2, b2, c2, d2⟩ := ih2 f G1 b1
    exact ⟨a, G2, b2, c1.then c2, .call d1 d2⟩
  | callSusp _ ih =>
    intro f G' r
    obtain ⟨a, G1, b, c, d⟩ := ih rfl G' r
    refine ⟨fun v g l k c' p' fs' z => ?_, G1, b, c, .callSusp d⟩
    injection z with _ _ _ _ _ _ z7
    subst z7
    exact split_app (a _ _ _ _ _ _ _ rfl) (split_ret.mpr rfl)
  | yield => exact fun f G' r => ⟨fun _ _ _ _ _ _ _ z => by injection z with _ _ _ _ _ _ z7; subst z7; rfl, G', r, Stay.rfl', .yield⟩
  | @resumeFresh Γ p g l k s c e₁ s₁ e s' q _ hq _ ih1 ih2 =>
    intro f G' r
    obtain ⟨y, hy, tw⟩ := r.get q
    have ey : y = .fresh c := by
      rcases tw with ⟨z, _⟩ | ⟨_, _, _, _, _, _, _, _, z, _⟩
      · exact z.symm
      · exact nomatch z
    subst ey
    obtain ⟨a1, G1, b1, c1, d1⟩ := ih1 rfl _ (r.set g .running fun _ _ _ _ _ _ z => nomatch z)
    obtain ⟨a, G2, b2, c2, d2⟩ := ih2 f _ (b1.set g e₁.genState a1.state)
    exact ⟨a, G2, b2, (Stay.through q notStone_fresh c1).then c2, .resumeFresh hy d1 hq d2⟩
  | @resumeSuspended Γ p g r' l k s k₀ l₀ c₀ p₀ fs₀ cl e₁ s₁ e s' q hrun hq _ ih1 ih2 =>
    intro f G' r
    obtain ⟨y, hy, tw⟩ := r.get q
    rcases tw with ⟨z, hf⟩ | ⟨⟨k', l', c', p', fs', cl', z, hk⟩, _⟩
    · subst z
      have ns : ¬ Stone (.suspended k₀ l₀ c₀ p₀ fs₀ cl) := fun ⟨k', l', c', p', fs', cl', z, hk⟩ => by
        injection z with z1
        subst z1
        obtain ⟨m, em⟩ := hk r'
        exact no_unsup (m := m) hrun em
      obtain ⟨a1, G1, b1, c1, d1⟩ := ih1 (hf _ _ _ _ _ _ rfl) _ (r.set g .running fun _ _ _ _ _ _ z => nomatch z)
      obtain ⟨a, G2, b2, c2, d2⟩ := ih2 f _ (b1.set g e₁.genState a1.state)
      exact ⟨a, G2, b2, (Stay.through q ns c1).then c2, .resumeSuspended hy d1 hq d2⟩
    · injection z with z1
      subst z1
      obtain ⟨m, em⟩ := hk r'
      exact absurd em (no_unsup hrun)
  | resumeJustStarted q n _ ih =>
    intro f G' r
    obtain ⟨y, hy, tw⟩ := r.get q
    obtain ⟨a, G1, b, c, d⟩ := ih f G' r
    rcases tw with ⟨z, _⟩ | ⟨_, _, _, _, _, _, _, _, z, _⟩
    · subst z; exact ⟨a, G1, b, c, .resumeJustStarted hy n d⟩
    · exact nomatch z
  | resumeThrowFresh q _ ih =>
    intro f G' r
    obtain ⟨y, hy, tw⟩ := r.get q
    rcases tw with ⟨z, _⟩ | ⟨_, _, _, _, _, _, _, _, z, _⟩
    · subst z
      obtain ⟨a, G1, b, c', d⟩ := ih f _ (r.set _ .finished fun _ _ _ _ _ _ z => nomatch z)
      exact ⟨a, G1, b, (Stay.set q notStone_fresh).then c', .resumeThrowFresh hy d⟩
    · exact nomatch z
  | resumeRunning q _ ih =>
    intro f G' r
    obtain ⟨y, hy, tw⟩ := r.get q
    obtain ⟨a, G1, b, c, d⟩ := ih f G' r
    rcases tw with ⟨z, _⟩ | ⟨_, _, _, _, _, _, _, _, z, _⟩
    · subst z; exact ⟨a, G1, b, c, .resumeRunning hy d⟩
    · exact nomatch z
  | resumeFinished q _ ih =>
    intro f G' r
    obtain ⟨y, hy, tw⟩ := r.get q
    obtain ⟨a, G1, b, c, d⟩ := ih f G' r
    rcases tw with ⟨z, _⟩ | ⟨_, _, _, _, _, _, _, _, z, _⟩
    · subst z; exact ⟨a, G1, b, c, .resumeFinished hy d⟩
    · exact nomatch z
  | segRet _ _ ih1 ih2 =>
    intro f G' r
    obtain ⟨_, G1, b1, c1, d1⟩ := ih1 rfl G' r
    obtain ⟨a, G2, b2, c2, d2⟩ := ih2 (split_ret.mp f) G1 b1
    exact ⟨a, G2, b2, c1.then c2, .segRet d1 d2⟩
  | segGen _ _ _ _ => exact fun f => nomatch f
  | segSuspOut q _ ih =>
    intro f G' r
    obtain ⟨a, G1, b, c, d⟩ := ih rfl G' r
    refine ⟨fun v g l k c' p' fs' z => ?_, G1, b, c, .segSuspOut q d⟩
    injection z with _ _ _ _ _ _ z7
    subst z7
    exact split_app (a _ _ _ _ _ _ _ rfl) f
  | segSuspGen q _ _ _ _ _ => exact fun f => by rw [q] at f; exact nomatch f

theorem wp_twin {α : Type} (M : Model) (Γ : PySem.Ctx) (t : Sem α) : ∀ (Q : α → Pos → Shared → Prop) (E : Value → Pos → Shared → Prop) (p : Pos) (s : Shared) (G' : Array GenState), Twins s.gens G' → wp M Γ t Q E p s →
    wp M Γ t (fun a p' s' => ∃ G, Twins G s'.gens ∧ Stay s.gens G G' s'.gens ∧ Q a p' { s' with gens := G }) (fun e p' s' => ∃ G, Twins G s'.gens ∧ Stay s.gens G G' s'.gens ∧ E e p' { s' with gens := G }) p { s with gens := G' } := by
  induction t with
  | pure a => intro Q E p s G' r h; exact ⟨s.gens, r, Stay.rfl', h⟩
  | raise e => intro Q E p s G' r h; exact ⟨s.gens, r, Stay.rfl', h⟩
  | unsupported _ => intro Q E p s G' _ h; exact h
  | finish _ => intro Q E p s G' _ h; exact h
  | rule _ k ih => intro Q E p s G' r h; exact ih () Q E p s G' r h
  | «at» p' k ih => intro Q E p s G' r h; exact ih () Q E p' s G' r h
  | load a _ k ih => intro Q E p s G' r h; obtain ⟨o, ho, h⟩ := h; exact ⟨o, ho, ih o Q E p s G' r h⟩
  | update a _ f k ih => intro Q E p s G' r h; exact ⟨h.1, ih () Q E p { s with heap := s.heap.update a f } G' r h.2⟩
  | loadIfAlive a k ih => intro Q E p s G' r h; exact ih _ Q E p s G' r h
  | point _ k ih => intro Q E p s G' r h; exact ih () Q E p s G' r h
  | register _ _ => intro Q E p s G' _ h; exact h
  | alloc o k ih => intro Q E p s G' r h; exact ih _ Q E p { s with heap := s.heap.push o } G' r h
  | fresh k ih => intro Q E p s G' r h; exact ih _ Q E p { s with toks := s.toks + 1 } G' r h
  | ask k ih => intro Q E p s G' r h; exact ih _ Q E p s G' r h
  | choose src m k ih => intro Q E p s G' r h; exact ⟨h.1, ih _ Q E p { s with drawn := s.drawn.bump src } G' r h.2⟩
  | os q _ k ih => intro Q E p s G' r h; exact ih _ Q E p { s with os := (Os.step s.os q).1 } G' r h
  | call c hd _ _ k ih =>
    intro Q E p s G' r h
    obtain ⟨res, s', hr, h⟩ := h
    obtain ⟨_, G1, b, st, d⟩ := runs_twin hr rfl G' r
    refine ⟨res, { s' with gens := G1 }, d, ?_⟩
    refine Sem.wp_mono M _ _ (fun a p' s'' ⟨G, x, y, z⟩ => ⟨G, x, st.then y, z⟩) (fun a p' s'' ⟨G, x, y, z⟩ => ⟨G, x, st.then y, z⟩) _ _ (ih res Q E p s' G1 b h)
  | handled own k ih => intro Q E p s G' r h; exact ih _ Q E p s G' r h
  | genState g k ih =>
    intro Q E p s G' r h
    obtain ⟨st, hs, h⟩ := h
    obtain ⟨y, hy, tw⟩ := r.get hs
    rw [tw.seen] at h
    exact ⟨y, hy, ih _ Q E p s G' r h⟩
  | newGen c k ih =>
    intro Q E p s G' r h
    have h2 := ih _ Q E p _ _ (r.push c) h
    rw [r.1] at h2
    exact Sem.wp_mono M _ _ (fun a p' s'' ⟨G, x, y, z⟩ => ⟨G, x, (Stay.push _).then y, z⟩) (fun a p' s'' ⟨G, x, y, z⟩ => ⟨G, x, (Stay.push _).then y, z⟩) _ _ h2
  | resume g rr lv k ih =>
    intro Q E p s G' r h
    obtain ⟨res, s', hw, h⟩ := h
    have fin : ∀ {G1 : Array GenState}, Twins s'.gens G1 → Stay s.gens s'.gens G' G1 → Wakes M Γ p g rr { s with gens := G' } res { s' with gens := G1 } →
        wp M Γ (.resume g rr lv k) (fun a p' s' => ∃ G, Twins G s'.gens ∧ Stay s.gens G G' s'.gens ∧ Q a p' { s' with gens := G }) (fun e p' s' => ∃ G, Twins G s'.gens ∧ Stay s.gens G G' s'.gens ∧ E e p' { s' with gens := G }) p { s with gens := G' } := fun {G1} b st w =>
      ⟨res, _, w, Sem.wp_mono M _ _ (fun a p' s'' ⟨G, x, y, z⟩ => ⟨G, x, st.then y, z⟩) (fun a p' s'' ⟨G, x, y, z⟩ => ⟨G, x, st.then y, z⟩) _ _ (ih res Q E p s' G1 b h)⟩
    unfold Wakes at hw
    cases q : s.gens[g]? with
    | none => rw [q] at hw; exact hw.elim
    | some x =>
      rw [q] at hw
      obtain ⟨y, hy, tw⟩ := r.get q
      have hy' : ({ s with gens := G' } : Shared).gens[g]? = some y := hy
      cases x with
      | fresh c =>
        have ey : y = .fresh c := by
          rcases tw with ⟨z, _⟩ | ⟨_, _, _, _, _, _, _, _, z, _⟩
          · exact z.symm
          · exact nomatch z
        subst ey
        have ran : ∀ {r' : Resume}, r' = .send .none → (∃ e₁ s₁, Runs M (Γ.wake c p) p (M.den c) [] (s.setGen g .running) e₁ s₁ ∧ e₁.quiet = true ∧ res = e₁.result ∧ s' = s₁.setGen g e₁.genState) →
            ∃ G1, Twins s'.gens G1 ∧ Stay s.gens s'.gens G' G1 ∧ ∃ e₁ s₁, Runs M (Γ.wake c p) p (M.den c) [] (({ s with gens := G' } : Shared).setGen g .running) e₁ s₁ ∧ e₁.quiet = true ∧ res = e₁.result ∧ ({ s' with gens := G1 } : Shared) = s₁.setGen g e₁.genState := by
          rintro r' _ ⟨e₁, s₁, hr, hq, e1, rfl⟩
          obtain ⟨a1, G1, b1, c1, d1⟩ := runs_twin hr rfl _ (r.set g .running fun _ _ _ _ _ _ z => nomatch z)
          exact ⟨G1.setIfInBounds g e₁.genState, b1.set g _ a1.state, Stay.through q notStone_fresh c1, e₁, { s₁ with gens := G1 }, d1, hq, e1, rfl⟩
        cases rr with
        | throw x =>
          obtain ⟨e1, e2⟩ := hw
          subst e1; subst e2
          refine fin (G1 := G'.setIfInBounds g .finished) (r.set g .finished fun _ _ _ _ _ _ z => nomatch z) (Stay.set q notStone_fresh) ?_
          unfold Wakes
          rw [hy']
          exact ⟨rfl, rfl⟩
        | send v =>
          cases v with
          | none =>
            obtain ⟨G1, b1, c1, w1⟩ := ran rfl hw
            refine fin b1 c1 ?_
            unfold Wakes
            rw [hy']
            exact w1
          | _ =>
            obtain ⟨e1, e2⟩ := hw
            subst e1; subst e2
            refine fin r Stay.rfl' ?_
            unfold Wakes
            rw [hy']
            exact ⟨rfl, rfl⟩
      | suspended k₀ l₀ c₀ p₀ fs₀ cl =>
        obtain ⟨e₁, s₁, hr, hq, e1, e2⟩ := hw
        rcases tw with ⟨z, hf⟩ | ⟨⟨k', l', c', p', fs', cl', z, hk⟩, _⟩
        · subst z
          subst e2
          have ns : ¬ Stone (.suspended k₀ l₀ c₀ p₀ fs₀ cl) := fun ⟨k', l', c', p', fs', cl', z, hk⟩ => by
            injection z with z1
            subst z1
            obtain ⟨m, em⟩ := hk rr
            exact no_unsup (m := m) hr em
          obtain ⟨a1, G1, b1, c1, d1⟩ := runs_twin hr (hf _ _ _ _ _ _ rfl) _ (r.set g .running fun _ _ _ _ _ _ z => nomatch z)
          refine fin (b1.set g _ a1.state) (Stay.through q ns c1) ?_
          unfold Wakes
          rw [hy']
          exact ⟨e₁, { s₁ with gens := G1 }, d1, hq, e1, rfl⟩
        · injection z with z1
          subst z1
          obtain ⟨m, em⟩ := hk rr
          exact absurd em (no_unsup hr)
      | running =>
        have ey : y = .running := by
          rcases tw with ⟨z, _⟩ | ⟨_, _, _, _, _, _, _, _, z, _⟩
          · exact z.symm
          · exact nomatch z
        subst ey
        obtain ⟨e1, e2⟩ := hw
        subst e1; subst e2
        refine fin r Stay.rfl' ?_
        unfold Wakes
        rw [hy']
        exact ⟨rfl, rfl⟩
      | finished =>
        have ey : y = .finished := by
          rcases tw with ⟨z, _⟩ | ⟨_, _, _, _, _, _, _, _, z, _⟩
          · exact z.symm
          · exact nomatch z
        subst ey
        obtain ⟨e1, e2⟩ := hw
        subst e1; subst e2
        refine fin r Stay.rfl' ?_
        unfold Wakes
        rw [hy']
        exact ⟨rfl, rfl⟩
  | yield _ _ _ _ => intro Q E p s G' _ h; exact h
  | stack k ih => intro Q E p s G' r h; exact ih _ Q E p s G' r h
  | fork _ _ => intro Q E p s G' _ h; exact h
  | thread k ih => intro Q E p s G' r h; exact ih _ Q E p s G' r h
  | await _ _ _ _ _ => intro Q E p s G' _ h; exact h
/-- a sleeper made a stone -/
def stoned : GenState → GenState
  | .suspended _ l c p fs cl => .suspended (fun _ => .unsupported "") l c p fs cl
  | x => x
theorem twin_stoned (x : GenState) : Twin (stoned x) x := by
  cases x with
  | suspended k l c p fs cl => exact .inr ⟨⟨_, l, c, p, fs, cl, rfl, fun _ => ⟨_, rfl⟩⟩, _, k, l, c, p, fs, cl, rfl, rfl⟩
  | fresh c => exact .inl ⟨rfl, fun _ _ _ _ _ _ z => nomatch z⟩
  | running => exact .inl ⟨rfl, fun _ _ _ _ _ _ z => nomatch z⟩
  | finished => exact .inl ⟨rfl, fun _ _ _ _ _ _ z => nomatch z⟩
theorem twins_stoned (G : Array GenState) : Twins (G.map stoned) G := by
  refine ⟨by simp, fun i x y e e' => ?_⟩
  rw [Array.getElem?_map, e'] at e
  cases e
  exact twin_stoned y
theorem bare_stoned {G : Array GenState} (h : AllBare G) : AllBare (G.map stoned) := fun x hx => by
  obtain ⟨y, hy, rfl⟩ := Array.mem_map.mp hx
  rw [(twin_stoned y).bare]
  exact h y hy
theorem Twins.bare {G G' : Array GenState} (h : Twins G G') (b : AllBare G) : AllBare G' := fun y hy => by
  obtain ⟨i, hi, e⟩ := Array.mem_iff_getElem.mp hy
  have e' : G'[i]? = some y := by rw [Array.getElem?_eq_getElem hi, e]
  have hi' : i < G.size := by rw [h.1]; exact hi
  have e1 : G[i]? = some G[i] := Array.getElem?_eq_getElem hi'
  rw [← (h.2 i _ y e1 e').bare]
  exact b _ (Array.getElem_mem hi')
/-- all sleepers of G sleep in G' as they did -/
def Dream (G G' : Array GenState) : Prop := ∀ (i : Nat) k l c p fs cl, G[i]? = some (GenState.suspended k l c p fs cl) → G'[i]? = some (GenState.suspended k l c p fs cl)
/-- THE RULE: what holds over the table of stones holds over the true one, and no sleeper has stirred -/
theorem wpAny_asleep {α : Type} {M : Model} {A : Around} {t : Sem α} {Q : α → Shared → Prop} {E : Value → Shared → Prop} {s : Shared} (h : wpAny M A t Q E { s with gens := s.gens.map stoned }) :
    wpAny M A t (fun a s' => ∃ G, Twins G s'.gens ∧ Dream s.gens s'.gens ∧ Q a { s' with gens := G }) (fun e s' => ∃ G, Twins G s'.gens ∧ Dream s.gens s'.gens ∧ E e { s' with gens := G }) s := fun Γ p hΓ => by
  have h1 := wp_twin M Γ t _ _ p { s with gens := s.gens.map stoned } s.gens (twins_stoned s.gens) (h Γ p hΓ)
  have st : ∀ {G G' : Array GenState}, Stay (s.gens.map stoned) G s.gens G' → Dream s.gens G' := fun {G G'} x i k l c p fs cl e =>
    (x i (stoned (GenState.suspended k l c p fs cl)) _ (by rw [Array.getElem?_map, e]; rfl) e ⟨_, l, c, p, fs, cl, rfl, fun _ => ⟨_, rfl⟩⟩).2
  exact Sem.wp_mono M Γ t (fun a p' s' ⟨G, x, y, z⟩ => ⟨G, x, st y, z⟩) (fun a p' s' ⟨G, x, y, z⟩ => ⟨G, x, st y, z⟩) p s h1
theorem Inv.regen {X : Cx} {pins : List (Addr × Obj)} {σ : List (Option V)} {H : Hp} {s : Shared} {G : Array GenState} (I : Inv X pins σ H s) (b : AllBare G) : Inv X pins σ H { s with gens := G } :=
  ⟨I.ok, I.os, b, I.base, I.loc, I.cell, I.free, I.freeC, I.pin, I.hok, I.len⟩
end Hd
set_option maxHeartbeats 4000000
/-! One segment of a generator's run: from where it wakes to where it hands out or ends. -/
namespace Hd
open PySem PySem.Spec PyProof.Rows L2
open Sem (wp)

/-- it runs to an end of which F holds -/
def Sg (M : Model) (A : Around) (c : Code) (t : Sem PySem.Fin) (fs : List Frame) (s : Shared) (F : End → Shared → Prop) : Prop :=
  ∀ Γ p, Γ.code = c → Γ.Woken A → ∃ e s', Runs M Γ p t fs s e s' ∧ F e s'
section
variable {M : Model} {A : Around} {c : Code} {fs : List Frame} {s : Shared} {F : End → Shared → Prop}
theorem sg_wrap {α : Type} {m : Sem α} {K : α → Sem PySem.Fin} {J : Value → Sem PySem.Fin} {gd : Bool → Bool} {lv : List Value → List Value}
    (h : wpAny M (A.over c fs) m (fun a s' => Sg M A c (K a) fs s' F) (fun x s' => Sg M A c (J x) fs s' F) s) : Sg M A c (m.wrap K J gd lv) fs s F := by
  intro Γ p hc hW
  subst hc
  refine runs_wrap_of_wp K J gd lv m (h (Γ.over fs) p (hW.over fs)) ?_ ?_
  · exact fun a p' s' q => q Γ p' rfl hW
  · exact fun x p' s' q => q Γ p' rfl hW
theorem sg_bind {α : Type} {m : Sem α} {K : α → Sem PySem.Fin}
    (h : wpAny M (A.over c fs) m (fun a s' => Sg M A c (K a) fs s' F) (fun x s' => Sg M A c (.raise x) fs s' F) s) : Sg M A c (m >>= K) fs s F := by
  rw [Sem.bind_eq_wrap']
  exact sg_wrap h
theorem sg_at {q : Pos} {k : Unit → Sem PySem.Fin} (h : Sg M A c (k ()) fs s F) : Sg M A c (.at q k) fs s F := by
  have w := sg_wrap (M := M) (A := A) (c := c) (fs := fs) (s := s) (F := F) (m := standAt q) (K := k) (J := .raise) (gd := id) (lv := id) (wpAny_standAt h)
  exact w
theorem sg_point {l : List Value} {k : Unit → Sem PySem.Fin} (h : Sg M A c (k ()) fs s F) : Sg M A c (.point l k) fs s F := by
  have w := sg_wrap (M := M) (A := A) (c := c) (fs := fs) (s := s) (F := F) (m := point) (K := k) (J := .raise) (gd := id) (lv := fun _ => l) (wpAny_point h)
  exact w
theorem sg_call {c' : Code} {x : Option Value} {g : Bool} {l : List Value} {k : Result → Sem PySem.Fin} (h : ∀ p, Sg M A c' (M.den c') (.ret k x g l c p [] :: fs) s F) : Sg M A c (.call c' x g l k) fs s F := by
  intro Γ p hc hW
  subst hc
  obtain ⟨e, s', hr, he⟩ := h p (Γ.goto c') p rfl (hW.goto c')
  exact ⟨e, s', runs_call_seg hr, he⟩
theorem sg_leaf {k : Result → Sem PySem.Fin} {x : Option Value} {g : Bool} {l kp : List Value} {c₁ : Code} {p₁ : Pos} (r : Result) (h : Sg M A c₁ (k r) fs s F) : Sg M A c (leafOf r) (.ret k x g l c₁ p₁ kp :: fs) s F := by
  intro Γ p hc hW
  subst hc
  obtain ⟨e, s', hr, he⟩ := h (Γ.goto c₁) p₁ rfl (hW.goto c₁)
  exact ⟨e, s', Runs.pop r hr, he⟩
theorem sg_again {c' : Code} (q : c'.quiet = true) (h : Sg M A c' (M.den c') fs s F) : Sg M A c (.pure (.again c')) fs s F := by
  intro Γ p hc hW
  subst hc
  obtain ⟨e, s', hr, he⟩ := h (Γ.goto c') p rfl (hW.goto c')
  exact ⟨e, s', Runs.head (c₁ := c') (fun _ _ x => .again q x) hr, he⟩
theorem sg_end (r : Result) (h : F (.ret r) s) : Sg M A c (leafOf r) [] s F := fun Γ p _ _ => ⟨.ret r, s, Runs.leaf r, h⟩
theorem sg_out {v : Value} {g : Bool} {l : List Value} {k : Resume → Sem PySem.Fin} (hf : splitAtGen fs = none) (h : ∀ p, F (.susp v g l k c p fs) s) : Sg M A c (.yield v g l k) fs s F := by
  intro Γ p hc hW
  subst hc
  exact ⟨_, s, Runs.yield' fs hf, h p⟩
theorem sg_cons {env : Env} {K : Flow → Sem PySem.Fin} {J : Value → Sem PySem.Fin} {gd : Bool → Bool} {lv : List Value → List Value} {st : Stmt} {rest : List Stmt}
    (h : Sg M A c ((exec st env).wrap (fun f => match f with | .next => (execs rest env).wrap K J gd lv | f => K f) J gd lv) fs s F) : Sg M A c ((execs (st :: rest) env).wrap K J gd lv) fs s F := by
  rw [execs_cons_wrap]
  exact h
theorem sg_mono {t : Sem PySem.Fin} {F' : End → Shared → Prop} (h : Sg M A c t fs s F) (i : ∀ e s', F e s' → F' e s') : Sg M A c t fs s F' := fun Γ p hc hW =>
  let ⟨e, s', hr, he⟩ := h Γ p hc hW; ⟨e, s', hr, i e s' he⟩
/-- yield e; it wakes where what follows stands -/
theorem sg_yield {env : Env} {K : Flow → Sem PySem.Fin} {J : Value → Sem PySem.Fin} {gd : Bool → Bool} {lv : List Value → List Value} {e : Expr} {yp pos : Pos} (hs : splitAtGen fs = none)
    (h : wpAny M (A.over c fs) (eval e env) (fun v s' => ∀ (k : Resume → Sem PySem.Fin) (l : List Value) (p : Pos), (∀ (s2 : Shared) (F2 : End → Shared → Prop), Sg M A c (K .next) fs s2 F2 → Sg M A c (k (.send .none)) fs s2 F2) → F (.susp v (gd false) l k c p fs) s')
      (fun x s' => Sg M A c (J x) fs s' F) s) (hco : env.scope.isCoroutine = false := by rfl) (hi : interactive env = false := by rfl) : Sg M A c ((exec (.Expr (.Yield (some e) yp) pos) env).wrap K J gd lv) fs s F := by
  rw [exec_Expr env _ pos hi rfl]
  show Sg M A c (.at pos fun _ => ((eval e env >>= fun v => (standAt yp >>= fun _ => yieldOut env v)) >>= fun x => dropValue (.Yield (some e) yp) pos x).wrap K J gd lv) fs s F
  have hy : ∀ v, yieldOut env v = yieldValue v := fun v => by unfold yieldOut; rw [hco]; rfl
  simp only [hy]
  refine sg_at ?_
  rw [Sem.bind_eq_wrap', Sem.bind_eq_wrap', Sem.wrap_wrap, Sem.wrap_wrap]
  refine sg_wrap (wpAny_mono h (fun v s' q => ?_) fun _ _ x => x)
  refine sg_at (sg_out hs fun p => ?_)
  refine q _ _ p fun s2 F2 z => ?_
  exact z
end

/-! ### a generator is woken -/
/-- where it goes on -/
def GoS (M : Model) (A : Around) (gs : GenState) (s : Shared) (F : End → Shared → Prop) : Prop :=
  match gs with
  | .fresh c => Sg M A c (M.den c) [] s F
  | .suspended k _ c _ fs _ => Sg M A c (k (.send .none)) fs s F
  | _ => False
theorem wpAny_wake {M : Model} {A : Around} {α : Type} {k : GenResult → Sem α} {Q : α → Shared → Prop} {E : Value → Shared → Prop} {s : Shared} {g : Nat} {gs : GenState} {l : List Value} {F : End → Shared → Prop}
    (hg : s.gens[g]? = some gs) (h : GoS M A gs (s.setGen g .running) F) (hq : ∀ e s1, F e s1 → e.quiet = true) (hk : ∀ e s1, F e s1 → wpAny M A (k e.result) Q E (s1.setGen g e.genState)) : wpAny M A (.resume g (.send .none) l k) Q E s := by
  intro Γ p hΓ
  rw [Sem.wp_resume]
  cases gs with
  | fresh c =>
    obtain ⟨e, s1, hr, he⟩ := h (Γ.wake c p) p rfl (hΓ.wake c p)
    refine ⟨_, _, ?_, hk e s1 he Γ p hΓ⟩
    unfold Wakes
    rw [hg]
    exact ⟨e, s1, hr, hq e s1 he, rfl, rfl⟩
  | suspended k0 l0 c0 p0 fs0 cl =>
    obtain ⟨e, s1, hr, he⟩ := h (Γ.wake c0 p) p0 rfl (hΓ.wake c0 p)
    refine ⟨_, _, ?_, hk e s1 he Γ p hΓ⟩
    unfold Wakes
    rw [hg]
    exact ⟨e, s1, hr, hq e s1 he, rfl, rfl⟩
  | running => exact False.elim h
  | finished => exact False.elim h
/-- the end of an iterator: its own error -/
def Stopped (e : Value) (h : Heap) : Prop := ∃ b o, e = .ref b ∧ h.get? b = some o ∧ o.cls = .type "StopIteration"
/-- g.__next__(): it hands out, or it ends -/
theorem special_woken {P : Program} {w : World} {A : Around} {Q : Option Value → Shared → Prop} {E : Value → Shared → Prop} {s : Shared} {a : Addr} {g : Nat} {gs : GenState} {F : End → Shared → Prop} (hh : A.handled = none)
    (hl : s.heap.NoLimit) (hd : A.depth < recursionLimit) (ha : s.heap.IsGen a g) (hg : s.gens[g]? = some gs) (h : GoS (model P w) A.in1 gs (s.setGen g .running) F)
    (hq : ∀ e s1, F e s1 → e.quiet = true)
    (hs : ∀ v gd l k c p fs s1, F (.susp v gd l k c p fs) s1 → Q (some v) (s1.setGen g (.suspended k l c p fs (gd || fs.any Frame.guarded))))
    (hr : ∀ r s1, F (.ret r) s1 → (r = .ok (.ret .none) ∨ r = .ok .next) ∧ ∀ e h', (∀ b o, s1.heap.get? b = some o → h'.get? b = some o) → Stopped e h' → E e { s1.setGen g .finished with heap := h' }) :
    wpAny (model P w) A (callSpecial? (.ref a) "__next__") Q E s := by
  refine wpAny_callSpecial?_slot (name := Str.ofString "__next__") ha.typeIs slot_gen_next ?_
  refine wpAny_call_entry slot_gen_next ha.typeIs entry_gen_next ?_ (args_gen_next _)
  show wpAny _ A.in1 (Builtin.Generator.genWake (.ref a) (.send .none)) _ _ s
  unfold Builtin.Generator.genWake
  refine wpAny_bind (wpAny_holding (wpAny_genNumber ha (wpAny_bind (wpAny_genState hg ?_))))
  cases gs with
  | running => exact False.elim h
  | finished => exact False.elim h
  | _ =>
    refine wpAny_bind (wpAny_roomToWake hl hd ?_)
    show wpAny _ A.in1 (.resume g (.send .none) [] _) _ _ s
    refine wpAny_wake hg h hq fun e s1 he => ?_
    cases e with
    | susp v gd l k c p fs => exact wpAny_pure ⟨v, rfl, hs v gd l k c p fs s1 he⟩
    | ret r =>
      obtain ⟨hr1, hr2⟩ := hr r s1 he
      have er : (End.ret r).result = .returned .none := by rcases hr1 with z | z <;> rw [z] <;> rfl
      rw [er]
      show wpAny _ A.in1 (newExc (.type "StopIteration") [] >>= _) _ _ _
      refine wpAny_bind ?_
      unfold newExc newTuple
      refine wpAny_bind (wpAny_newObj_type ?_ (by size_fits))
      refine wpAny_bind (m := firstArgMember _ _) (wpAny_of_eq (a := Value.none) (by rfl) ?_)
      refine wpAny_newObj_type ?_ (by size_fits)
      unfold raiseNew
      refine wpAny_bind (wpAny_bind (wpAny_handled ?_))
      rw [show A.in1.handled = none from hh]
      refine wpAny_throw ?_
      exact hr2 _ _ (fun b o hb => Heap.get?_push_of_some _ (Heap.get?_push_of_some _ hb)) ⟨_, _, rfl, Heap.get?_push_size _ rfl, rfl⟩
/-- next(..) by what __next__ does -/
theorem next_of_special {M : Model} {A : Around} {a : Addr} {Q : Option Value → Shared → Prop} {E : Value → Shared → Prop} {s : Shared} (h : wpAny M A (callSpecial? (.ref a) "__next__") (fun v s' => v ≠ none ∧ Q v s') (fun e s' => Stopped e s'.heap ∧ Q none s') s) :
    wpAny M A (pyNext (.ref a)) Q E s := by
  unfold pyNext
  refine wpAny_bind (wpAny_attempt (wpAny_mono h (fun v s' q => ?_) fun e s' q => ?_))
  · cases v with
    | none => exact absurd rfl q.1
    | some v => exact wpAny_pure q.2
  · obtain ⟨⟨b, o, rfl, ho, hc⟩, q⟩ := q
    exact wpAny_bind (wpAny_isInstance (T := "StopIteration") (b := true) ⟨o, ho, hc⟩ isSubtype_stop (wpAny_pure q))
theorem nextOf_of_special {M : Model} {A : Around} {a : Addr} {Q : Value → Shared → Prop} {E : Value → Shared → Prop} {s : Shared} (h : wpAny M A (callSpecial? (.ref a) "__next__") (fun v s' => ∃ u, v = some u ∧ Q u s') E s) :
    wpAny M A (Builtin.SmallTypes.nextOf (.ref a)) Q E s := by
  unfold Builtin.SmallTypes.nextOf
  refine wpAny_bind (wpAny_mono h (fun v s' q => ?_) fun _ _ z => z)
  obtain ⟨u, rfl, q⟩ := q
  exact wpAny_pure q
end Hd
set_option maxHeartbeats 4000000
/-! A generator's frame while others run: its own objects (its names, its cells) are held by the table of what is known, one by one, as they stand; when it is woken
its invariant is begun anew, from the heap below its frame as it then is, all that others made in between known as it stands. -/
namespace Hd
open PySem PySem.Spec PyProof.Rows L2

/-- the heap below L -/
def cut (h : Heap) (L : Nat) : Heap := ⟨h.objs.extract 0 L, h.life⟩
theorem cut_size {h : Heap} {L : Nat} (hL : L ≤ h.objs.size) : (cut h L).objs.size = L := by
  show (h.objs.extract 0 L).size = L
  rw [Array.size_extract]
  omega
theorem cut_lo {h : Heap} {L b : Nat} (hL : L ≤ h.objs.size) (hb : b < L) : (cut h L).get? b = h.get? b := by
  unfold Heap.get? cut
  have e : (h.objs.extract 0 L)[b]? = h.objs[b]? := by
    rw [Array.getElem?_extract, if_pos (by omega)]
    rw [Nat.zero_add]
  simp only [e]
theorem cut_at {h : Heap} {L b : Nat} {o : Obj} (hL : L ≤ h.objs.size) (e : (cut h L).get? b = some o) : b < L ∧ h.get? b = some o := by
  have hb : b < L := by
    have := Heap.lt_size e
    rw [cut_size hL] at this
    exact this
  exact ⟨hb, by rw [← cut_lo hL hb]; exact e⟩

/-- what is known of stands -/
theorem obj_at {P : Program} {w : World} {H : Hp} {h : Heap} {a : Addr} {o : HO} (x : ObjOk P w H h a o) : ∃ ob, h.get? a = some ob := by
  cases o with
  | lst xs => obtain ⟨_, _, _, _, e⟩ := x; exact ⟨_, e⟩
  | tup xs => obtain ⟨_, _, _, ob, e, _⟩ := x; exact ⟨ob, e⟩
  | dK kvs => obtain ⟨_, _, _, _, o, _, _, e, _⟩ := x; exact ⟨_, e⟩
  | dT kvs => obtain ⟨_, _, _, _, o, _, _, e, _⟩ := x; exact ⟨_, e⟩
  | set S n => obtain ⟨o, _, _, _, e, _⟩ := x; exact ⟨_, e⟩
  | ins C dx fs => obtain ⟨_, _, _, e, _⟩ := x; exact ⟨_, e⟩
  | own y => exact x
  | xd fs => obtain ⟨_, ⟨_, _, _, e, _⟩, _⟩ := x; exact ⟨_, e⟩
  | rng lo hi => obtain ⟨_, _, _, e⟩ := x; exact ⟨_, e⟩
  | frz ob u => exact ⟨ob, x.1⟩
  | tbl ps => exact ⟨_, x⟩
  | met f y => exact ⟨_, x⟩
  | ext φ => exact x.2.1
/-- this very object -/
abbrev extO (b : Addr) (o : Obj) : HO := .ext fun h => h.get? b = some o
theorem extO_ok {P : Program} {w : World} {H : Hp} {h : Heap} {b : Addr} {o : Obj} (e : h.get? b = some o) : ObjOk P w H h b (extO b o) :=
  ⟨e, ⟨o, e⟩, fun _ _ h1 k => k o h1⟩
theorem extO_at {P : Program} {w : World} {H : Hp} {h : Heap} {b : Addr} {o : Obj} (x : HOk P w H h) (e : H b = some (extO b o)) : h.get? b = some o := (x b _ e).1

/-- within: its own objects are free, what others made stands as it is -/
def inn (prv : List Addr) (L : Nat) (h : Heap) (H : Hp) : Hp := fun b =>
  if b ∈ prv then none else match H b with
    | some o => some o
    | none => if L ≤ b then (h.get? b).map (extO b) else none
/-- without: its own objects as they stand; what was not known of others is not known -/
def outp (prv : List Addr) (L : Nat) (h2 : Heap) (H2 : Hp) (h3 : Heap) (H3 : Hp) : Hp := fun b =>
  if b ∈ prv then (h3.get? b).map (extO b) else if ((H2 b).isNone && (decide (L ≤ b) && (h2.get? b).isSome)) = true then none else H3 b
section
variable {prv : List Addr} {L : Nat} {h h2 h3 : Heap} {H H2 H3 : Hp} {b : Addr} {o : HO}
theorem inn_prv (hb : b ∈ prv) : inn prv L h H b = none := by unfold inn; rw [if_pos hb]
theorem inn_some (hb : b ∉ prv) (e : H b = some o) : inn prv L h H b = some o := by unfold inn; rw [if_neg hb, e]
theorem inn_lo (hb : b < L) (e : H b = none) : inn prv L h H b = none := by
  unfold inn
  split
  · rfl
  · rw [e]
    show (if L ≤ b then _ else none) = none
    rw [if_neg (Nat.not_le.mpr hb)]
theorem inn_hi {ob : Obj} (hp : b ∉ prv) (hb : L ≤ b) (e : H b = none) (q : h.get? b = some ob) : inn prv L h H b = some (extO b ob) := by
  unfold inn
  rw [if_neg hp, e]
  show (if L ≤ b then _ else none) = _
  rw [if_pos hb, q]
  rfl
theorem of_inn (e : inn prv L h H b = some o) : b ∉ prv ∧ (H b = some o ∨ (H b = none ∧ L ≤ b ∧ ∃ ob, h.get? b = some ob ∧ o = extO b ob)) := by
  unfold inn at e
  split at e
  · cases e
  · rename_i hp
    refine ⟨hp, ?_⟩
    cases q : H b with
    | some u => rw [q] at e; exact .inl e
    | none =>
      rw [q] at e
      have e : (if L ≤ b then (h.get? b).map (extO b) else none) = some o := e
      split at e
      · rename_i hb
        cases r : h.get? b with
        | none => rw [r] at e; cases e
        | some ob => rw [r] at e; cases e; exact .inr ⟨rfl, hb, ob, rfl, rfl⟩
      · cases e
theorem inn_ok {P : Program} {w : World} (x : HOk P w H h) (ext : ∀ b ∈ prv, ∃ φ, H b = some (.ext φ)) : HOk P w (inn prv L h H) h := fun a u e => by
  rcases (of_inn e).2 with z | ⟨_, _, ob, q, rfl⟩
  · refine (x a u z).stay (fun _ _ _ y => y) (fun c y => ?_) fun c xs y => ?_
    · refine inn_some (fun hc => ?_) y
      obtain ⟨φ, hφ⟩ := ext c hc
      rw [hφ] at y; cases y
    · refine inn_some (fun hc => ?_) y
      obtain ⟨φ, hφ⟩ := ext c hc
      rw [hφ] at y; cases y
  · exact extO_ok q
end

/-- a generator's body running, its frame at L; nothing is raised -/
def gcx (P : Program) (w : World) (K : PySem.W.Frag) (mg : Str → Option Value) (base : Heap) (N : List Str) (qual : Str) (scope : Scope) (f : Addr) (cd : Value) (A : Around) (outer : List Env) (L : Addr) (s : Shared) (H : Hp) : Cx where
  prog := P
  w := w
  K := K
  mg := mg
  base := base
  A := A.deeper (envOfC qual scope L f cd)
  N := N
  s_0 := s
  H_0 := H
  env := envOfC qual scope L f cd
  outer := outer
  stack := envOfC qual scope L f cd :: outer
  ex := []
  calm := true
  fn := fun _ => true
  pn := []
  xe := fun _ _ => False
/-- its own objects -/
def prvOf (scope : Scope) (L : Addr) : List Addr := L :: (cellsFrom (L + 1) scope.names []).filterMap fun p => (cellsFrom (L + 1) scope.names []).lookup p.1
theorem prv_cell {scope : Scope} {L : Addr} {x : Str} {c : Addr} (e : (cellsFrom (L + 1) scope.names []).lookup x = some c) : c ∈ prvOf scope L :=
  List.mem_cons_of_mem _ (List.mem_filterMap.mpr ⟨(x, c), PySem.mem_of_lookup e, e⟩)
section
variable {P : Program} {w : World} {K : PySem.W.Frag} {mg : Str → Option Value} {base : Heap} {N : List Str} {qual : Str} {scope : Scope} {f : Addr} {cd : Value} {A A1 : Around} {outer : List Env} {L : Addr}
theorem frames_cut {h : Heap} {base : Heap} : ∀ {l : List Env}, L ≤ h.objs.size → (∀ b ∈ frs l, b < L) → h.FunFrames base l → (cut h L).FunFrames base l
  | [], _, _, _ => trivial
  | env :: r, hL, hb, ⟨hk, ⟨a, o, hf, hn, ho, hd⟩, hr⟩ => by
    refine ⟨hk, ⟨a, o, hf, hn, ?_, hd⟩, frames_cut hL (fun b hm => hb b ?_) hr⟩
    · rw [cut_lo hL (hb a (by unfold frs; rw [List.filterMap_cons, hf]; exact List.mem_cons_self))]
      exact ho
    · unfold frs
      rw [List.filterMap_cons]
      cases env.frame with
      | none => exact hm
      | some z => exact List.mem_cons_of_mem _ hm
theorem frames_lo {s0 : Shared} {base : Heap} (hL : s0.heap.objs.size ≤ L) {l : List Env} (h : s0.heap.FunFrames base l) : ∀ b ∈ frs l, b < L := fun b hb => by
  obtain ⟨_, o, ho, _⟩ := h.mem hb
  exact Nat.lt_of_lt_of_le (Heap.lt_size ho) hL
/-- woken: begun anew -/
theorem rebase {s0 s1 s2 : Shared} {H0 H1 H2 : Hp} {pins : List (Addr × Obj)} {σ : L2.St} (I : Inv (gcx P w K mg base N qual scope f cd A1 outer L s0 H0) pins σ H1 s1) (e0 : Env0 P w K mg base A outer s2 H2) (hd : A.handled = none)
    (hsz : s0.heap.objs.size = L) (same : ∀ b ∈ prvOf scope L, s2.heap.get? b = s1.heap.get? b) (ext : ∀ b ∈ prvOf scope L, ∃ φ, H2 b = some (.ext φ)) :
    L ≤ s2.heap.objs.size ∧ Inv (gcx P w K mg base N qual scope f cd A outer L { s2 with heap := cut s2.heap L } (inn (prvOf scope L) L s2.heap H2)) [] σ (inn (prvOf scope L) L s2.heap H2) s2 := by
  obtain ⟨m, hn, hl⟩ := I.loc
  have atL : L ∈ prvOf scope L := List.mem_cons_self
  obtain ⟨oL, es, ep, hoL, rL⟩ := id hn
  have hoL' : s2.heap.get? L = some oL := (same L atL).trans hoL
  have hle : L ≤ s2.heap.objs.size := Nat.le_of_lt (Heap.lt_size hoL')
  have hcs : (cut s2.heap L).objs.size = L := cut_size hle
  have cellK : ∀ x c v, (cellsFrom (L + 1) scope.names []).lookup x = some c → s1.heap.IsCell c v → s2.heap.IsCell c v := fun x c v e ⟨o, ho, hd⟩ => ⟨o, (same c (prv_cell e)).trans ho, hd⟩
  have bL : ∀ b o, base.get? b = some o → b < L := fun b o e => by
    have := Heap.lt_size e
    have h2 := I.ok.bsz
    have h3 : base.objs.size ≤ s0.heap.objs.size := h2
    rw [hsz] at h3
    exact Nat.lt_of_lt_of_le this h3
  have nob : ∀ b : Addr, b ∉ ([] : List Addr) := fun b z => by simp at z
  refine ⟨hle, ⟨e0.mod, I.ok.kind, rfl, rfl, ?_, I.ok.inj, I.ok.has, fun x c z e => ?_, fun _ => hd, Around.frames_deeper e0.frames, .inr ⟨rfl, rfl⟩, fun b z => absurd z (nob b), fun b o e => ?_, ?_, fun b _ _ => nob b, fun b z => absurd z (nob b), ?_, fun b hb => ?_⟩,
    rfl, e0.bare, ?_, ⟨m, ?_, fun i x v h1 h2 h3 => ?_⟩, fun x c e => ?_, inn_prv atL, fun x c e => inn_prv (prv_cell e), fun p hp => absurd (show p ∈ ([] : List (Addr × Obj)) from hp) (by simp), inn_ok e0.hok ext, I.len⟩
  · exact Nat.le_of_eq hcs
  · have q := I.ok.cab x c rfl e
    have q : s0.heap.objs.size ≤ c := q
    show (cut s2.heap L).objs.size ≤ c
    rw [hcs, ← hsz]
    exact q
  · obtain ⟨q1, q2⟩ := e0.bs b o e
    have lt := bL b o e
    exact ⟨(cut_lo hle lt).trans q1, inn_lo lt q2⟩
  · show base.objs.size ≤ (cut s2.heap L).objs.size
    rw [hcs, ← hsz]
    exact I.ok.bsz
  · exact frames_cut hle (frames_lo (Nat.le_of_eq hsz) I.ok.funs) e0.funs
  · exact inn_lo (frames_lo (Nat.le_of_eq hsz) I.ok.funs b hb) (e0.frf b hb)
  · exact Un.kept fun b u q => (cut_at hle q).2
  · exact ⟨oL, es, ep, hoL', rL⟩
  · obtain ⟨u, r, l⟩ := hl i x v h1 h2 h3
    refine ⟨u, r, ?_⟩
    rcases l with l | ⟨k, c, e, z⟩
    · exact .inl l
    · exact .inr ⟨k, c, e, cellK x c _ e z⟩
  · obtain ⟨v, z⟩ := I.cell x c e
    exact ⟨v, cellK x c v e z⟩
/-- it hands out, or it ends: what others see -/
theorem emit {s2 s3 : Shared} {H2 H3 : Hp} {σ : L2.St} (hle : L ≤ s2.heap.objs.size) (J : Inv (gcx P w K mg base N qual scope f cd A outer L { s2 with heap := cut s2.heap L } (inn (prvOf scope L) L s2.heap H2)) [] σ H3 s3)
    (e0 : Env0 P w K mg base A outer s2 H2) (ext : ∀ b ∈ prvOf scope L, ∃ φ, H2 b = some (.ext φ))
    (k1 : ∀ b φ, inn (prvOf scope L) L s2.heap H2 b = some (.ext φ) → H3 b = some (.ext φ)) (k2 : ∀ b, inn (prvOf scope L) L s2.heap H2 b ≠ none → H3 b ≠ none) :
    s3.os = s2.os ∧ AllBare s3.gens ∧ HOk P w (outp (prvOf scope L) L s2.heap H2 s3.heap H3) s3.heap ∧ Un (frs outer) [] H2 (outp (prvOf scope L) L s2.heap H2 s3.heap H3) s2.heap s3.heap ∧
      (∀ b ∈ prvOf scope L, ∃ o, s3.heap.get? b = some o ∧ outp (prvOf scope L) L s2.heap H2 s3.heap H3 b = some (extO b o)) ∧
      (∀ b o, (∀ φ, o ≠ .ext φ) → H3 b = some o → outp (prvOf scope L) L s2.heap H2 s3.heap H3 b = some o) ∧
      ∀ b φ, b ∉ prvOf scope L → H2 b = some (.ext φ) → outp (prvOf scope L) L s2.heap H2 s3.heap H3 b = some (.ext φ) := by
  have hcs : (cut s2.heap L).objs.size = L := cut_size hle
  have prv3 : ∀ b ∈ prvOf scope L, H3 b = none ∧ ∃ o, s3.heap.get? b = some o := fun b hb => by
    rcases List.mem_cons.mp hb with rfl | hb
    · obtain ⟨m, ⟨o, _, _, ho, _⟩, _⟩ := J.loc
      exact ⟨J.free, o, ho⟩
    · obtain ⟨⟨x, c⟩, _, hc⟩ := List.mem_filterMap.mp hb
      obtain ⟨v, o, ho, _⟩ := J.cell x b hc
      exact ⟨J.freeC x b hc, o, ho⟩
  have frs3 : ∀ b ∈ frs outer, b < L := fun b hb => by
    have q := J.ok.funs
    have q : (cut s2.heap L).FunFrames base outer := q
    obtain ⟨_, o, ho, _⟩ := q.mem hb
    have := Heap.lt_size ho
    rw [hcs] at this
    exact this
  -- what is free for others
  have outFree : ∀ b ob, b ∉ prvOf scope L → H2 b = none → L ≤ b → s2.heap.get? b = some ob → outp (prvOf scope L) L s2.heap H2 s3.heap H3 b = none := fun b ob hp h2 hb hb2 => by
    unfold outp
    rw [if_neg hp, h2, hb2]
    simp only [Option.isNone_none, Bool.true_and, decide_eq_true hb, Option.isSome_some, if_true]
  have outKeep : ∀ b, b ∉ prvOf scope L → (H2 b ≠ none ∨ b < L ∨ s2.heap.get? b = none) → outp (prvOf scope L) L s2.heap H2 s3.heap H3 b = H3 b := fun b hp h => by
    unfold outp
    rw [if_neg hp]
    refine if_neg fun z => ?_
    simp only [Bool.and_eq_true, decide_eq_true_eq] at z
    rcases h with h | h | h
    · cases q : H2 b with
      | none => exact h q
      | some u => rw [q] at z; exact nomatch z.1
    · exact absurd z.2.1 (Nat.not_le.mpr h)
    · rw [h] at z; exact nomatch z.2.2
  have outNx : ∀ b o, (∀ φ, o ≠ .ext φ) → H3 b = some o → outp (prvOf scope L) L s2.heap H2 s3.heap H3 b = some o := fun b o nx e => by
    have hp : b ∉ prvOf scope L := fun z => by rw [(prv3 b z).1] at e; cases e
    rw [outKeep b hp ?_]
    · exact e
    · cases q : H2 b with
      | some u => exact .inl (by simp)
      | none =>
        refine .inr ?_
        rcases Nat.lt_or_ge b L with hb | hb
        · exact .inl hb
        · refine .inr ?_
          cases r : s2.heap.get? b with
          | none => rfl
          | some ob =>
            have := k1 b _ (inn_hi hp hb q r)
            rw [e] at this
            cases this
            exact absurd rfl (nx _)
  have outPrv : ∀ b ∈ prvOf scope L, ∃ o, s3.heap.get? b = some o ∧ outp (prvOf scope L) L s2.heap H2 s3.heap H3 b = some (extO b o) := fun b hb => by
    obtain ⟨_, o, ho⟩ := prv3 b hb
    refine ⟨o, ho, ?_⟩
    unfold outp
    rw [if_pos hb, ho]
    rfl
  have outExt : ∀ b φ, b ∉ prvOf scope L → H2 b = some (.ext φ) → outp (prvOf scope L) L s2.heap H2 s3.heap H3 b = some (.ext φ) := fun b φ hp e => by
    rw [outKeep b hp (.inl (by rw [e]; simp))]
    exact k1 b φ (inn_some hp e)
  have nprv : ∀ b u, H2 b = some u → (∀ φ, u ≠ .ext φ) → b ∉ prvOf scope L := fun b u e nx hb => by
    obtain ⟨φ, q⟩ := ext b hb
    rw [e] at q; cases q; exact nx φ rfl
  refine ⟨J.os, J.bare, fun b o e => ?_, ⟨fun b o e n hb _ => ?_, fun b o e n hb _ => ?_, fun b o e n _ => ?_, fun b o e _ => ?_, fun b xs e => ?_, fun b o u e => ?_, fun b ps e => ?_⟩, outPrv, outNx, outExt⟩
  · by_cases hp : b ∈ prvOf scope L
    · obtain ⟨ob, h1, h2⟩ := outPrv b hp
      rw [h2] at e; cases e
      exact extO_ok h1
    · have e3 : H3 b = some o := by
        unfold outp at e
        rw [if_neg hp] at e
        split at e
        · cases e
        · exact e
      exact (J.hok b o e3).stay (fun _ _ _ y => y) (fun c y => outNx c _ (fun φ z => nomatch z) y) fun c xs y => outNx c _ (fun φ z => nomatch z) y
  · have hp : b ∉ prvOf scope L := fun z => by
      obtain ⟨φ, q⟩ := ext b z
      rw [n] at q; cases q
    rcases Nat.lt_or_ge b L with lt | ge
    · exact J.base.keep b o ((cut_lo hle lt).trans e) (inn_lo lt n) hb (by simp [gcx])
    · exact extO_at J.hok (k1 b _ (inn_hi hp ge n e))
  · have lt := frs3 b hb
    exact J.base.slot b o ((cut_lo hle lt).trans e) (inn_lo lt n) hb (by simp [gcx])
  · have hp : b ∉ prvOf scope L := fun z => by
      obtain ⟨φ, q⟩ := ext b z
      rw [n] at q; cases q
    rcases Nat.lt_or_ge b L with lt | ge
    · rw [outKeep b hp (.inr (.inl lt))]
      exact J.base.free b o ((cut_lo hle lt).trans e) (inn_lo lt n) (by simp [gcx])
    · exact outFree b o hp n ge e
  · by_cases hp : b ∈ prvOf scope L
    · exact (prv3 b hp).2
    · rcases Nat.lt_or_ge b L with lt | ge
      · exact J.base.there b o ((cut_lo hle lt).trans e) (by simp [gcx])
      · have q : inn (prvOf scope L) L s2.heap H2 b ≠ none := by
          cases r : H2 b with
          | some u => rw [inn_some hp r]; simp
          | none => rw [inn_hi hp ge r e]; simp
        have q3 := k2 b q
        cases r : H3 b with
        | none => exact absurd r q3
        | some u =>
          exact obj_at (J.hok b u r)
  · have hp := nprv b _ e fun φ z => nomatch z
    rw [outKeep b hp (.inl (by rw [e]; simp))]
    exact J.base.tups b xs (inn_some hp e)
  · have hp := nprv b _ e fun φ z => nomatch z
    rw [outKeep b hp (.inl (by rw [e]; simp))]
    exact J.base.frzs b o u (inn_some hp e)
  · have hp := nprv b _ e fun φ z => nomatch z
    rw [outKeep b hp (.inl (by rw [e]; simp))]
    exact J.base.tbls b ps (inn_some hp e)
end
end Hd
set_option maxHeartbeats 4000000
/-! What a generator promises to whom it is handed: item by item, whatever that one does meanwhile with what is its own (M). -/
namespace Hd
open PySem PySem.Spec PyProof.Rows L2

/-- what is known, but for what is held object by object, is known there too -/
def NX (H H' : Hp) : Prop := ∀ b o, (∀ φ, o ≠ .ext φ) → H b = some o → H' b = some o
theorem NX.rfl' {H : Hp} : NX H H := fun _ _ _ e => e
theorem NX.then {H H1 H2 : Hp} (a : NX H H1) (b : NX H1 H2) : NX H H2 := fun c o n e => b c o n (a c o n e)
/-- .. but for those at M -/
def NXM (M : List Addr) (H H' : Hp) : Prop := ∀ b o, b ∉ M → (∀ φ, o ≠ .ext φ) → H b = some o → H' b = some o
def ButM (M : List Addr) (H H' : Hp) : Prop := ∀ b o, b ∉ M → H b = some o → H' b = some o
/-- a thing that its holder may change: no tuple, nothing locked -/
structure Own (o : HO) : Prop where
  nx : ∀ φ, o ≠ .ext φ
  nt : ∀ xs, o ≠ .tup xs
  nf : ∀ ob u, o ≠ .frz ob u
def MOk (M : List Addr) (H : Hp) : Prop := ∀ b ∈ M, ∃ o, Own o ∧ H b = some o
theorem own_lst {xs : List V} : Own (.lst xs) := ⟨(fun _ z => nomatch z), (fun _ z => nomatch z), (fun _ _ z => nomatch z)⟩
theorem own_dT {kvs : List (List L2.Key × V)} : Own (.dT kvs) := ⟨(fun _ z => nomatch z), (fun _ z => nomatch z), (fun _ _ z => nomatch z)⟩
/-- a generator's promise, turn by turn: woken at Hw it hands out x at H; it ends -/
structure GPr where
  out : Nat → Hp → V → Hp → Prop
  fin : Nat → Hp → Hp → Prop
/-- what the one who waked it sees -/
structure Seen (P : Program) (w : World) (outer : List Env) (a : Addr) (go : Obj) (s2 : Shared) (H2 : Hp) (s3 : Shared) (H3 : Hp) : Prop where
  os : s3.os = s2.os
  bare : AllBare s3.gens
  hok : HOk P w H3 s3.heap
  un : Un (frs outer) [] H2 H3 s2.heap s3.heap
  obj : H3 a = some (extO a go)
structure Ready (P : Program) (w : World) (K : PySem.W.Frag) (mg : Str → Option Value) (base : Heap) (A : Around) (outer : List Env) (os : OsState) (M : List Addr) (Hy : Hp) (s2 : Shared) (H2 : Hp) : Prop where
  env : Env0 P w K mg base A outer s2 H2
  os : s2.os = os
  but : ButM M Hy H2
  mok : MOk M H2
/-- it sleeps: m turns are left, this is turn i, Hy was known when it fell asleep -/
def Slp (P : Program) (w : World) (K : PySem.W.Frag) (mg : Str → Option Value) (base : Heap) (A : Around) (outer : List Env) (os : OsState) (a : Addr) (go : Obj) (M : List Addr) (G : GPr) : Nat → Nat → GenState → Hp → Prop
  | 0, i, gs, Hy => Hy a = some (extO a go) ∧ ∀ s2 H2, Ready P w K mg base A outer os M Hy s2 H2 → GoS (model P w) A gs s2 fun e s3 => ∃ r, e = .ret r ∧ (r = .ok (.ret .none) ∨ r = .ok .next) ∧
      ∃ H3 Hw Hi, Seen P w outer a go s2 H2 s3 H3 ∧ NX H2 Hw ∧ G.fin i Hw Hi ∧ NX Hi H3
  | m + 1, i, gs, Hy => Hy a = some (extO a go) ∧ ∀ s2 H2, Ready P w K mg base A outer os M Hy s2 H2 → GoS (model P w) A gs s2 fun e s3 => ∃ v l k c p fs, e = .susp v false l k c p fs ∧ fs.any Frame.guarded = false ∧
      ∃ x H3 Hw Hi, RelV x v ∧ Seen P w outer a go s2 H2 s3 H3 ∧ NX H2 Hw ∧ G.out i Hw x Hi ∧ NX Hi H3 ∧ Slp P w K mg base A outer os a go M G m (i + 1) (.suspended k l c p fs false) H3
/-- what the generator keeps of what is held object by object, and that nothing known is lost -/
def Kp (Hw H : Hp) : Prop := (∀ b φ, Hw b = some (.ext φ) → H b = some (.ext φ)) ∧ ∀ b, Hw b ≠ none → H b ≠ none
theorem Kp.rfl' {H : Hp} : Kp H H := ⟨fun _ _ e => e, fun _ e => e⟩
theorem Kp.same {H H' : Hp} (h : Same H H') : Kp H H' := ⟨fun b φ e => h b _ e, fun b e => by
  cases q : H b with
  | none => exact absurd q e
  | some u => rw [h b u q]; simp⟩
theorem Kp.then {H H1 H2 : Hp} (a : Kp H H1) (b : Kp H1 H2) : Kp H H2 := ⟨fun c φ e => b.1 c φ (a.1 c φ e), fun c e => b.2 c (a.2 c e)⟩
theorem Kp.upd {H : Hp} {b : Addr} {o u : HO} (e : H b = some o) (n : ∀ φ, o ≠ .ext φ) : Kp H (upd H b u) := by
  refine ⟨fun c φ q => ?_, fun c q => ?_⟩
  · rw [upd_ne]
    · exact q
    · rintro rfl
      rw [e] at q; cases q; exact n φ rfl
  · unfold L2.upd
    split
    · simp
    · exact q

/-- what a turn's end does -/
def turnEnd (test : Expr) (body : List Stmt) (env : Env) : Flow → Sem PySem.Fin
  | .next => .pure (.again (.whileLoop test body [] env))
  | .cont => .pure (.again (.whileLoop test body [] env))
  | .brk => .pure (.done .next)
  | .ret v => .pure (.done (.ret v))
theorem sg_loop {P : Program} {w : World} {A : Around} {fs : List Frame} {env : Env} (test : Expr) (body : List Stmt) : ∃ J : Value → Sem PySem.Fin, ∀ (s : Shared) (F : End → Shared → Prop),
    wpAny (model P w) (A.over (.whileLoop test body [] env) fs) (isTrue test env (eval test env)) (fun b s' => if b = true then
        Sg (model P w) A (.whileLoop test body [] env) ((execs body env).wrap (turnEnd test body env) J id id) fs s' F
      else Sg (model P w) A (.whileLoop test body [] env) (.pure (.done .next)) fs s' F) (fun _ _ => False) s → Sg (model P w) A (.whileLoop test body [] env) ((model P w).den (.whileLoop test body [] env)) fs s F := by
  refine ⟨?_, fun s F h => ?_⟩
  rotate_left
  · show Sg _ A _ ((whileTurn test body [] env).onRaise (fun x => do noteFrame x env; theTreesLotGoes x)) fs s F
    unfold whileTurn
    rw [Sem.onRaise_eq_wrap, Sem.bind_eq_wrap', Sem.wrap_wrap]
    refine sg_wrap (wpAny_mono h (fun b s' q => ?_) fun _ _ z => z.elim)
    cases b with
    | true =>
      rw [if_pos rfl] at q
      show Sg _ A _ (Sem.wrap _ _ _ _ (if true = true then _ else _)) fs s' F
      rw [if_pos rfl, Sem.bind_eq_wrap', Sem.wrap_wrap]
      rw [Sem.wrap_congr (execs body env) _ _ (K' := turnEnd test body env) (fun f => by cases f <;> rfl) (fun _ => rfl)]
      exact q
    | false =>
      rw [if_neg Bool.false_ne_true] at q
      show Sg _ A _ (Sem.wrap _ _ _ _ (if false = true then _ else _)) fs s' F
      rw [if_neg Bool.false_ne_true, Sem.bind_eq_wrap', Sem.wrap_wrap]
      exact q
section
variable {P : Program} {w : World} {K : PySem.W.Frag} {mg : Str → Option Value} {base : Heap} {N : List Str} {qual : Str} {scope : Scope} {f : Addr} {cd : Value} {A A1 : Around} {outer : List Env} {L a : Addr} {go : Obj} {os : OsState} {M : List Addr}
theorem inn_nx {prv : List Addr} {h : Heap} {H : Hp} (ext : ∀ b ∈ prv, ∃ φ, H b = some (.ext φ)) : NX H (inn prv L h H) := fun b o n e => inn_some (fun hb => by
  obtain ⟨φ, q⟩ := ext b hb
  rw [e] at q; cases q; exact n φ rfl) e
/-- the body of such a generator, piece by piece: the start, then while test: yield e; rest -/
structure Loop (P : Program) (w : World) (K : PySem.W.Frag) (mg : Str → Option Value) (base : Heap) (N : List Str) (qual : Str) (scope : Scope) (f : Addr) (cd : Value) (A : Around) (outer : List Env) (L : Addr) (test ye : Expr) (rest : List Stmt) (c : TT) (ty : TE) (tr : TS) : Prop where
  c : ∀ s H, PT (gcx P w K mg base N qual scope f cd A outer L s H) test c
  y : ∀ s H, PE (gcx P w K mg base N qual scope f cd A outer L s H) ye ty
  r : ∀ s H, PSs (gcx P w K mg base N qual scope f cd A outer L s H) rest tr
/-- what the turns are worth -/
structure Turns (M : List Addr) (G : GPr) (n : Nat) (W : Nat → Hp → L2.St → Hp → Prop) (c : TT) (ty : TE) (tr : TS) : Prop where
  turn : ∀ i Hw σ H, W i Hw σ H → c σ H fun b H1 => if b = true then i < n ∧ ty σ H1 fun x H2 => Kp Hw H2 ∧ G.out i Hw x H2 ∧ ∀ Hw2, NXM M H2 Hw2 → MOk M Hw2 → tr { nx := fun σ' H3 => W (i + 1) Hw2 σ' H3, rt := fun _ _ => False } σ Hw2
    else i = n ∧ Kp Hw H1 ∧ G.fin i Hw H1

theorem seen_of {s2 s3 : Shared} {H2 H3 : Hp} {σ : L2.St} (hle : L ≤ s2.heap.objs.size) (J : Inv (gcx P w K mg base N qual scope f cd A outer L { s2 with heap := cut s2.heap L } (inn (prvOf scope L) L s2.heap H2)) [] σ H3 s3)
    (e0 : Env0 P w K mg base A outer s2 H2) (ext : ∀ b ∈ prvOf scope L, ∃ φ, H2 b = some (.ext φ)) (ha : a ∉ prvOf scope L) (Ha : H2 a = some (extO a go)) (kp : Kp (inn (prvOf scope L) L s2.heap H2) H3) :
    Seen P w outer a go s2 H2 s3 (outp (prvOf scope L) L s2.heap H2 s3.heap H3) ∧ NX H3 (outp (prvOf scope L) L s2.heap H2 s3.heap H3) ∧ ∀ b ∈ prvOf scope L, ∃ o, s3.heap.get? b = some o ∧ outp (prvOf scope L) L s2.heap H2 s3.heap H3 b = some (extO b o) := by
  obtain ⟨q1, q2, q3, q4, q5, q6, q7⟩ := emit hle J e0 ext kp.1 kp.2
  exact ⟨⟨q1, q2, q3, q4, q7 a _ ha Ha⟩, fun b o n e => q6 b o n e, q5⟩
/-- what a segment ends in -/
def Fp (P : Program) (w : World) (K : PySem.W.Frag) (mg : Str → Option Value) (base : Heap) (A : Around) (outer : List Env) (os : OsState) (a : Addr) (go : Obj) (M : List Addr) (G : GPr) (s2 : Shared) (H2 : Hp) : Nat → Nat → End → Shared → Prop
  | 0, i, e, s3 => ∃ r, e = .ret r ∧ (r = .ok (.ret .none) ∨ r = .ok .next) ∧ ∃ H3 Hw Hi, Seen P w outer a go s2 H2 s3 H3 ∧ NX H2 Hw ∧ G.fin i Hw Hi ∧ NX Hi H3
  | m + 1, i, e, s3 => ∃ v l k c p fs, e = .susp v false l k c p fs ∧ fs.any Frame.guarded = false ∧
      ∃ x H3 Hw Hi, RelV x v ∧ Seen P w outer a go s2 H2 s3 H3 ∧ NX H2 Hw ∧ G.out i Hw x Hi ∧ NX Hi H3 ∧ Slp P w K mg base A outer os a go M G m (i + 1) (.suspended k l c p fs false) H3
theorem slp_of {G : GPr} {m i : Nat} {gs : GenState} {Hy : Hp} (Ha : Hy a = some (extO a go)) (h : ∀ s2 H2, Ready P w K mg base A outer os M Hy s2 H2 → GoS (model P w) A gs s2 (Fp P w K mg base A outer os a go M G s2 H2 m i)) :
    Slp P w K mg base A outer os a go M G m i gs Hy := by
  cases m with
  | zero => exact ⟨Ha, h⟩
  | succ m => exact ⟨Ha, h⟩
/-- from the test of turn i on, m turns to come -/
theorem turns_run {test ye : Expr} {yp ypos : Pos} {rest : List Stmt} {c : TT} {ty : TE} {tr : TS} {G : GPr} {n : Nat} {W : Nat → Hp → L2.St → Hp → Prop} (hd : A.handled = none) (ha : a ∉ prvOf scope L) (hM : ∀ b ∈ M, b ∉ prvOf scope L ∧ b ≠ a)
    (B : Loop P w K mg base N qual scope f cd A outer L test ye rest c ty tr) (T : Turns M G n W c ty tr) (hco : scope.isCoroutine = false) (hk : scope.kind = .function) {fs : List Frame}
    (hov : A.over (.whileLoop test (.Expr (.Yield (some ye) yp) ypos :: rest) [] (envOfC qual scope L f cd)) fs = A.deeper (envOfC qual scope L f cd)) (hsp : splitAtGen fs = none) (hgd : fs.any Frame.guarded = false)
    (hend : ∀ (s : Shared) (F : End → Shared → Prop), F (.ret (.ok (.ret .none))) s → Sg (model P w) A (.whileLoop test (.Expr (.Yield (some ye) yp) ypos :: rest) [] (envOfC qual scope L f cd)) (.pure (.done .next)) fs s F) :
    ∀ (m i : Nat) (s2 s : Shared) (H2 H' : Hp) (σ : L2.St), i + m = n → L ≤ s2.heap.objs.size → Env0 P w K mg base A outer s2 H2 → s2.os = os → (∀ b ∈ prvOf scope L, ∃ φ, H2 b = some (.ext φ)) → H2 a = some (extO a go) →
      Inv (gcx P w K mg base N qual scope f cd A outer L { s2 with heap := cut s2.heap L } (inn (prvOf scope L) L s2.heap H2)) [] σ H' s → W i (inn (prvOf scope L) L s2.heap H2) σ H' →
      Sg (model P w) A (.whileLoop test (.Expr (.Yield (some ye) yp) ypos :: rest) [] (envOfC qual scope L f cd)) ((model P w).den (.whileLoop test (.Expr (.Yield (some ye) yp) ypos :: rest) [] (envOfC qual scope L f cd))) fs s
        (Fp P w K mg base A outer os a go M G s2 H2 m i) := by
  obtain ⟨Jx, hJ⟩ := sg_loop (P := P) (w := w) (A := A) (fs := fs) (env := envOfC qual scope L f cd) test (.Expr (.Yield (some ye) yp) ypos :: rest)
  intro m
  induction m with
  | zero =>
    intro i s2 s H2 H' σ hi hle e0 hos ext Ha J wi
    refine hJ s _ ?_
    rw [hov]
    refine wpAny_mono ((B.c _ _).run [] s σ H' _ J (T.turn i _ σ H' wi)) (fun b s' q => ?_) fun _ _ z => z
    obtain ⟨H1, J1, q⟩ := q
    cases b with
    | true => exact absurd q.1 (by omega)
    | false =>
      rw [if_neg Bool.false_ne_true] at q ⊢
      obtain ⟨_, kp, hf⟩ := q
      obtain ⟨sn, nx, _⟩ := seen_of hle J1 e0 ext ha Ha kp
      exact hend s' _ ⟨_, rfl, .inl rfl, _, _, _, sn, inn_nx ext, hf, nx⟩
  | succ m ih =>
    intro i s2 s H2 H' σ hi hle e0 hos ext Ha J wi
    refine hJ s _ ?_
    rw [hov]
    refine wpAny_mono ((B.c _ _).run [] s σ H' _ J (T.turn i _ σ H' wi)) (fun b s' q => ?_) fun _ _ z => z
    obtain ⟨H1, J1, q⟩ := q
    cases b with
    | false =>
      rw [if_neg Bool.false_ne_true] at q
      exact absurd q.1 (by omega)
    | true =>
      rw [if_pos rfl] at q ⊢
      refine sg_cons (sg_yield hsp ?_ hco (by simp [interactive, envOfC, hk]))
      rw [hov]
      refine wpAny_mono ((B.y _ _).run [] s' σ H1 _ J1 q.2) (fun v s3 q => ?_) fun _ _ z => False.elim z
      obtain ⟨x, H3, J3, rv, kp, ho, wake⟩ := q
      intro k l p hk'
      obtain ⟨sn, nx, prv3⟩ := seen_of hle J3 e0 ext ha Ha kp
      refine ⟨v, l, k, _, p, fs, rfl, hgd, x, _, _, _, rv, sn, inn_nx ext, ho, nx, slp_of sn.obj fun s5 H5 R => ?_⟩
      show Sg _ _ _ (k (.send .none)) fs s5 _
      refine hk' s5 _ ?_
      have at5 : ∀ b ∈ prvOf scope L, ∃ o, s3.heap.get? b = some o ∧ H5 b = some (extO b o) := fun b hb => by
        obtain ⟨o, e1, e2⟩ := prv3 b hb
        exact ⟨o, e1, R.but b _ (fun z => (hM b z).1 hb) e2⟩
      obtain ⟨hle5, I5⟩ := rebase J3 R.env hd (cut_size hle) (fun b hb => by
        obtain ⟨o, e1, e2⟩ := at5 b hb
        rw [e1]; exact extO_at R.env.hok e2) fun b hb => by
        obtain ⟨o, _, e2⟩ := at5 b hb
        exact ⟨_, e2⟩
      have ext5 : ∀ b ∈ prvOf scope L, ∃ φ, H5 b = some (.ext φ) := fun b hb => by
        obtain ⟨o, _, e2⟩ := at5 b hb
        exact ⟨_, e2⟩
      have nxm : NXM M H3 (inn (prvOf scope L) L s5.heap H5) := fun b o hb n e => inn_nx ext5 b o n (R.but b o hb (nx b o n e))
      have mok : MOk M (inn (prvOf scope L) L s5.heap H5) := fun b hb => by
        obtain ⟨o, n, e⟩ := R.mok b hb
        exact ⟨o, n, inn_nx ext5 b o n.nx e⟩
      show Sg _ _ _ ((execs rest _).wrap _ _ _ _) fs s5 _
      refine sg_wrap ?_
      rw [hov]
      refine wpAny_mono ((B.r _ _).run [] s5 σ _ { nx := fun σ' H3 => W (i + 1) (inn (prvOf scope L) L s5.heap H5) σ' H3, rt := fun _ _ => False } I5 (wake _ nxm mok)) (fun fl s6 hs => ?_) fun _ _ z => False.elim z
      cases fl with
      | next =>
        obtain ⟨σ6, H6, J6, w6⟩ := hs
        exact sg_again rfl (ih (i + 1) s5 s6 H5 H6 σ6 (by omega) hle5 R.env R.os ext5 (R.but a _ (fun z => (hM a z).2 rfl) sn.obj) J6 w6)
      | brk => obtain ⟨_, _, _, z⟩ := hs; exact False.elim z
      | cont => obtain ⟨_, _, _, z⟩ := hs; exact False.elim z
      | ret u => obtain ⟨_, _, _, _, _, z⟩ := hs; exact False.elim z
end
end Hd
set_option maxHeartbeats 4000000
/-! A generator def of the form: some statements, then while test: yield e; .. -/
namespace Hd
open PySem PySem.Spec PyProof.Rows L2

/-- statements ahead of the loop, each by its rule -/
inductive Pre (C : Shared → Hp → Cx) : List Stmt → TS → Prop
  | nil : Pre C [] tNext
  | cons {st : Stmt} {rest : List Stmt} {t u : TS} (h : ∀ s H, PS (C s H) st t) (r : Pre C rest u) : Pre C (st :: rest) (tSeq t u)
section
variable {P : Program} {w : World} {K : PySem.W.Frag} {mg : Str → Option Value} {base : Heap} {N : List Str} {qual : Str} {scope : Scope} {f : Addr} {cd : Value} {A : Around} {outer : List Env} {L : Addr}
theorem sg_pre {c : Code} {fs : List Frame} {F : End → Shared → Prop} {Kf : Flow → Sem PySem.Fin} {J : Value → Sem PySem.Fin} {gd : Bool → Bool} {lv : List Value → List Value} {tail : List Stmt} {Z : L2.St → Hp → Prop} {s0 : Shared} {H0 : Hp}
    (hov : A.over c fs = A.deeper (envOfC qual scope L f cd))
    (ht : ∀ (s : Shared) (σ : L2.St) (H : Hp), Inv (gcx P w K mg base N qual scope f cd A outer L s0 H0) [] σ H s → Z σ H → Sg (model P w) A c ((execs tail (envOfC qual scope L f cd)).wrap Kf J gd lv) fs s F) :
    ∀ {pre : List Stmt} {t : TS}, Pre (gcx P w K mg base N qual scope f cd A outer L) pre t → ∀ (s : Shared) (σ : L2.St) (H : Hp), Inv (gcx P w K mg base N qual scope f cd A outer L s0 H0) [] σ H s → t { nx := Z, rt := fun _ _ => False } σ H →
      Sg (model P w) A c ((execs (pre ++ tail) (envOfC qual scope L f cd)).wrap Kf J gd lv) fs s F := by
  intro pre t hp
  induction hp with
  | nil => exact fun s σ H I h => ht s σ H I h
  | @cons st rest t u h r ih =>
    intro s σ H I hq
    show Sg _ _ _ ((execs (st :: (rest ++ tail)) _).wrap Kf J gd lv) fs s F
    refine sg_cons (sg_wrap ?_)
    rw [hov]
    refine wpAny_mono ((h s0 H0).run [] s σ H { nx := u { nx := Z, rt := fun _ _ => False }, rt := fun _ _ => False } I hq) (fun fl s1 q => ?_) fun _ _ z => False.elim z
    cases fl with
    | next =>
      obtain ⟨σ1, H1, I1, q1⟩ := q
      exact ih s1 σ1 H1 I1 q1
    | brk => obtain ⟨_, _, _, z⟩ := q; exact False.elim z
    | cont => obtain ⟨_, _, _, z⟩ := q; exact False.elim z
    | ret u => obtain ⟨_, _, _, _, _, z⟩ := q; exact False.elim z
theorem sg_body {body : List Stmt} {env : Env} {s : Shared} {F : End → Shared → Prop} (h : ∀ J, Sg (model P w) A (.func body env) ((execs body env).wrap (fun fl => .pure (.done (.ret (match fl with | .ret v => v | _ => .none)))) J id id) [] s F) :
    Sg (model P w) A (.func body env) ((model P w).den (.func body env)) [] s F := by
  show Sg _ A _ (.point [] fun _ => ((execs body env).onRaise (leaving env)) >>= _) [] s F
  refine sg_point ?_
  rw [Sem.onRaise_eq_wrap, Sem.bind_eq_wrap', Sem.wrap_wrap]
  rw [Sem.wrap_congr (execs body env) _ _ (K' := fun fl => (.pure (.done (.ret (match fl with | .ret v => v | _ => .none))) : Sem PySem.Fin)) (fun fl => by cases fl <;> rfl) (fun _ => rfl)]
  exact h _
/-- a generator is there: asleep, whatever its keeper calls his own -/
structure Made (P : Program) (w : World) (K : PySem.W.Frag) (mg : Str → Option Value) (base : Heap) (k : Nat) (outer : List Env) (s : Shared) (H : Hp) (G : List Addr → GPr) (n : Nat) (a g : Nat) (go : Obj) (gs : GenState) (H' : Hp) (s' : Shared) : Prop where
  os : s'.os = s.os
  bare : AllBare s'.gens
  hok : HOk P w H' s'.heap
  un : Un (frs outer) [] H H' s.heap s'.heap
  same : Same H H'
  news : ∀ b, H b = none → H' b = none ∨ ∃ φ, H' b = some (.ext φ)
  isgen : ∀ h : Heap, h.get? a = some go → h.IsGen a g
  obj : H' a = some (extO a go)
  gen : s'.gens[g]? = some gs
  slp : ∀ (M : List Addr) (A' : Around), Room k A' → A'.frames = some outer → (∀ b ∈ M, ∀ o, H' b = some o → Own o) → Slp P w K mg base A' outer s.os a go M (G M) n 0 gs H'
abbrev SpN := List V → Hp → (List Addr → GPr) → Nat → Prop
structure GDef (P : Program) (w : World) (K : PySem.W.Frag) (mg : Str → Option Value) (base : Heap) (k : Nat) (f : Addr) (fd : FuncData) (ps : List Str) (sp : SpN) : Prop where
  len : ∀ vs H G n, sp vs H G n → vs.length = ps.length
  run : ∀ (A : Around) (outer : List Env) (s : Shared) (H : Hp) (args : Args) (us : List Value) (vs : List V) (G : List Addr → GPr) (n : Nat), Room k A → Env0 P w K mg base A outer s H → BindsTo s fd args (ps.zip us) → Vals vs us → sp vs H G n →
    codeAny (model P w) A (.call (.ref f) args) (fun r s' => ∃ a g go gs H', r = .ok (.ret (.ref a)) ∧ Made P w K mg base k outer s H G n a g go gs H' s') s
end
section
variable {P : Program} {w : World} {K : PySem.W.Frag} {mg : Str → Option Value} {base : Heap}
/-- THE RULE -/
theorem gdef_of {k : Nat} {f : Addr} {name qual : Str} {params : Arguments} {body pre rest : List Stmt} {test ye : Expr} {yp ypos wp : Pos} {scope : Scope} {dV kV doc pm cdv ct oc : Value} {an od : Option Addr}
    {osl : Array (Option Value)} {N ps : List Str} {sp : SpN} (lk : K.lookup f = some ⟨oc, od, .func (PySem.W.fnOf name qual params body scope dV kV doc pm an cdv ct), osl⟩) (hcd : PySem.W.codeIn K cdv qual = true) (S : GScope N ps scope)
    (hbd : body = pre ++ [.While test (.Expr (.Yield (some ye) yp) ypos :: rest) [] wp])
    (len : ∀ vs H G n, sp vs H G n → vs.length = ps.length)
    (hbody : ∀ (A : Around) (outer : List Env) (L : Addr), Room k (A.deeper (envOfC qual scope L f cdv)) →
      ∃ t c ty tr, Pre (gcx P w K mg base N qual scope f cdv A outer L) pre t ∧ Loop P w K mg base N qual scope f cdv A outer L test ye rest c ty tr ∧
        ∀ vs H G n, sp vs H G n → ∀ M : List Addr, (∀ b ∈ M, ∀ o, H b = some o → Own o) → ∃ W : Nat → Hp → L2.St → Hp → Prop, Turns M (G M) n W c ty tr ∧ ∀ Hw, NXM M H Hw → MOk M Hw → t { nx := fun σ' H' => W 0 Hw σ' H', rt := fun _ _ => False } (start N vs) Hw) :
    GDef P w K mg base (k + 1) f (PySem.W.fnOf name qual params body scope dV kV doc pm an cdv ct) ps sp := by
  refine ⟨len, fun A outer s H args us vs G n hr e0 hb r hsp => ?_⟩
  have hl := len _ _ _ _ hsp
  have KX : K.In s.heap := e0.mod.kin.keeps fun b o e => (e0.bs b o e).1
  have lim : s.heap.NoLimit := e0.mod.nolimit.keeps fun b o e => (e0.bs b o e).1
  have hkind : ∀ y ∈ ps.zip us, scope.names.lookup y.1 = some .local ∨ (scope.names.lookup y.1 = some .cell ∧ ((cellsFrom (s.heap.objs.size + 1) scope.names []).lookup y.1).isSome = true) := by
    rintro ⟨nm, v⟩ hy
    rcases S.par nm (List.of_mem_zip hy).1 with q | q
    · exact .inl q
    · exact .inr ⟨q, PySem.W.cellsFrom_some _ _ _ (.inl q)⟩
  refine codeAny_call_generator hr.depth (KX _ _ lk) rfl S.co S.gen rfl (PySem.W.codeRec_of KX hcd) (hb _ _ _ _ ?_)
  refine wpAny_newFunctionEnv_cells S.kind hkind fun env he s1 x => ?_
  subst he
  refine ⟨lim.keeps x.toInCall.keep, ?_⟩
  obtain ⟨h1, tk, es1, hk1⟩ := x.done
  have lt1 : s.heap.objs.size < s1.heap.objs.size := x.toInCall.ns.lt
  have kp1 : ∀ b o, s.heap.get? b = some o → s1.heap.get? b = some o := x.toInCall.keep
  have I0 : Inv (gcxOf P w K mg base N qual scope f cdv A outer s H (fun _ _ _ => False) []) [] (start N vs) H s1 := inv_startG S hr.hd e0 hl r x
  have I1 : Inv (gcx P w K mg base N qual scope f cdv A outer s.heap.objs.size s H) [] (start N vs) H s1 := I0.wish fun _ _ => False
  have prv1 : ∀ b ∈ prvOf scope s.heap.objs.size, H b = none ∧ b < s1.heap.objs.size ∧ s.heap.objs.size ≤ b ∧ ∃ o, s1.heap.get? b = some o := fun b hb => by
    rcases List.mem_cons.mp hb with rfl | hb
    · obtain ⟨m, ⟨o, _, _, ho, _⟩, _⟩ := I1.loc
      exact ⟨I1.free, lt1, Nat.le_refl _, o, ho⟩
    · obtain ⟨⟨y, c⟩, _, hc⟩ := List.mem_filterMap.mp hb
      obtain ⟨v, o, ho, _⟩ := I1.cell y b hc
      exact ⟨I1.freeC y b hc, Heap.lt_size ho, I1.ok.cab y b rfl hc, o, ho⟩
  have main : ∀ (go : Obj) (nm qn : Value) (tk2 : Nat), go.cls = .type "generator" → go.data = .fields #[.int s1.gens.size 0, nm, qn] → go.slots = #[] → (∀ h : Heap, (h.push go).get? h.objs.size = some go) →
      ∃ H', Made P w K mg base (k + 1) outer s H G n s1.heap.objs.size s1.gens.size go (.fresh (.func body (envOfC qual scope s.heap.objs.size f cdv))) H'
        { s1 with gens := s1.gens.push (.fresh (.func body (envOfC qual scope s.heap.objs.size f cdv))), toks := tk2, heap := s1.heap.push go } := by
    intro go nm qn tk2 hgc hgd hgs hgp
    have hpush : (s1.heap.push go).get? s1.heap.objs.size = some go := hgp _
    have kp2 : ∀ b o, s1.heap.get? b = some o → (s1.heap.push go).get? b = some o := fun b o e => Heap.get?_push_of_some _ e
    obtain ⟨H', hH'⟩ : ∃ H' : Hp, H' = fun b => if b = s1.heap.objs.size then some (extO b go) else if b ∈ prvOf scope s.heap.objs.size then (s1.heap.get? b).map (extO b) else H b := ⟨_, rfl⟩
    have hA : H' s1.heap.objs.size = some (extO s1.heap.objs.size go) := by rw [hH']; exact if_pos rfl
    have hPrv : ∀ b ∈ prvOf scope s.heap.objs.size, ∃ o, s1.heap.get? b = some o ∧ H' b = some (extO b o) := fun b hb => by
      obtain ⟨_, q2, _, o, ho⟩ := prv1 b hb
      refine ⟨o, ho, ?_⟩
      rw [hH']
      simp only
      rw [if_neg (Nat.ne_of_lt q2), if_pos hb, ho]
      rfl
    have hElse : ∀ b, b ≠ s1.heap.objs.size → b ∉ prvOf scope s.heap.objs.size → H' b = H b := fun b h1 h2 => by
      rw [hH']
      simp only
      rw [if_neg h1, if_neg h2]
    have hnA : H s1.heap.objs.size = none := I1.hok.fresh (Nat.le_refl _)
    have same : Same H H' := fun b o e => by
      rw [hElse b (ne_of_none e hnA) fun hb => by rw [(prv1 b hb).1] at e; cases e]
      exact e
    have old : ∀ b o, s.heap.get? b = some o → H' b = H b := fun b o e => by
      have lt := Heap.lt_size e
      refine hElse b (Nat.ne_of_lt (Nat.lt_trans lt lt1)) fun hb => ?_
      exact absurd lt (Nat.not_lt.mpr (prv1 b hb).2.2.1)
    have aprv : s1.heap.objs.size ∉ prvOf scope s.heap.objs.size := fun hb => Nat.lt_irrefl _ (prv1 _ hb).2.1
    refine ⟨H', ⟨by show s1.os = s.os; rw [es1], AllBare.push (by rw [es1]; exact e0.bare) rfl, fun b o e => ?_, ⟨fun b o e _ _ _ => kp2 b o (kp1 b o e), fun b o e _ _ _ => ⟨o.slots, kp2 b o (kp1 b o e)⟩, fun b o e n _ => by rw [old b o e]; exact n, fun b o e _ => ⟨o, kp2 b o (kp1 b o e)⟩,
      fun b xs e => same b _ e, fun b o u e => same b _ e, fun b ps e => ⟨#[], by rw [same b _ e]; simp⟩⟩, same, fun b n => ?_, fun h e => ⟨go, nm, qn, e, hgc, hgd, hgs⟩, hA, Array.getElem?_push_size .., ?_⟩⟩
    · by_cases h1 : b = s1.heap.objs.size
      · subst h1
        rw [hA] at e; cases e
        exact extO_ok hpush
      · by_cases h2 : b ∈ prvOf scope s.heap.objs.size
        · obtain ⟨ob, q1, q2⟩ := hPrv b h2
          rw [q2] at e; cases e
          exact extO_ok (kp2 b ob q1)
        · rw [hElse b h1 h2] at e
          exact (I1.hok b o e).stay (fun c u _ q => kp2 c u q) (fun c q => same c _ q) fun c xs q => same c _ q
    · by_cases h1 : b = s1.heap.objs.size
      · subst h1; exact .inr ⟨_, hA⟩
      · by_cases h2 : b ∈ prvOf scope s.heap.objs.size
        · obtain ⟨ob, q1, q2⟩ := hPrv b h2
          exact .inr ⟨_, q2⟩
        · exact .inl (by rw [hElse b h1 h2]; exact n)
    · intro M A' hrA hfr hM
      have hM' : ∀ b ∈ M, b ∉ prvOf scope s.heap.objs.size ∧ b ≠ s1.heap.objs.size := fun b hb => ⟨fun z => by
        obtain ⟨ob, _, q⟩ := hPrv b z
        exact (hM b hb _ q).nx _ rfl, fun z => by
        subst z
        exact (hM _ hb _ hA).nx _ rfl⟩
      obtain ⟨t, c, ty, tr, hpre, hloop, hsp'⟩ := hbody A' outer s.heap.objs.size (hrA.deeper _)
      obtain ⟨W, hT, hst⟩ := hsp' vs H G n hsp M fun b hb o e => hM b hb o (same b o e)
      refine slp_of hA fun s2 H2 R => ?_
      show Sg _ _ _ _ [] s2 _
      have at2 : ∀ b ∈ prvOf scope s.heap.objs.size, ∃ o, s1.heap.get? b = some o ∧ H2 b = some (extO b o) := fun b hb => by
        obtain ⟨o, e1, e2⟩ := hPrv b hb
        exact ⟨o, e1, R.but b _ (fun z => (hM' b z).1 hb) e2⟩
      have ext2 : ∀ b ∈ prvOf scope s.heap.objs.size, ∃ φ, H2 b = some (.ext φ) := fun b hb => by
        obtain ⟨o, _, e2⟩ := at2 b hb
        exact ⟨_, e2⟩
      obtain ⟨hle, I2⟩ := rebase I1 R.env hrA.hd rfl (fun b hb => by
        obtain ⟨o, e1, e2⟩ := at2 b hb
        rw [e1]; exact extO_at R.env.hok e2) ext2
      have nxm : NXM M H (inn (prvOf scope s.heap.objs.size) s.heap.objs.size s2.heap H2) := fun b o hb nx e => inn_nx ext2 b o nx (R.but b o hb (same b o e))
      have mok : MOk M (inn (prvOf scope s.heap.objs.size) s.heap.objs.size s2.heap H2) := fun b hb => by
        obtain ⟨o, nx, e⟩ := R.mok b hb
        exact ⟨o, nx, inn_nx ext2 b o nx.nx e⟩
      refine sg_body fun J => ?_
      rw [hbd]
      refine sg_pre GenW.over_func (fun s3 σ3 H3 I3 w3 => ?_) hpre s2 (start N vs) _ I2 (hst _ nxm mok)
      refine sg_cons (sg_at (sg_call fun p => ?_))
      refine turns_run hrA.hd aprv hM' hloop hT S.co S.kind ((GenW.over_loop rfl rfl).trans GenW.over_func) rfl rfl (fun s4 F4 h4 => ?_) n 0 s2 s3 H2 H3 σ3 (Nat.zero_add _) hle R.env R.os ext2 (R.but _ _ (fun z => (hM' _ z).2 rfl) hA) I3 w3
      exact sg_leaf (.ok .next) (sg_end (.ok (.ret .none)) h4)
  obtain ⟨H', h⟩ := main { cls := .type "generator", data := .fields #[.int s1.gens.size 0, .str name s1.toks, .str qual (s1.toks + 1)] } _ _ (s1.toks + 1 + 1) rfl rfl rfl fun h => Heap.get?_push_size _ rfl
  exact ⟨_, _, _, _, H', rfl, h⟩
theorem Fun.gen {x qual : Str} {st : Stmt} {f : Addr} {fd : FuncData} {N ps : List Str} {k : Nat} {sp : SpN} {pre rest : List Stmt} {test ye : Expr} {yp ypos wp : Pos} (F : Fun K x qual st f fd) (S : GScope N ps (defScope st))
    (hbd : defBody st = pre ++ [.While test (.Expr (.Yield (some ye) yp) ypos :: rest) [] wp]) (len : ∀ vs H G n, sp vs H G n → vs.length = ps.length)
    (hbody : ∀ (cdv : Value) (A : Around) (outer : List Env) (L : Addr), Room k (A.deeper (envOfC qual (defScope st) L f cdv)) →
      ∃ t c ty tr, Pre (gcx P w K mg base N qual (defScope st) f cdv A outer L) pre t ∧ Loop P w K mg base N qual (defScope st) f cdv A outer L test ye rest c ty tr ∧
        ∀ vs H G n, sp vs H G n → ∀ M : List Addr, (∀ b ∈ M, ∀ o, H b = some o → Own o) → ∃ W : Nat → Hp → L2.St → Hp → Prop, Turns M (G M) n W c ty tr ∧ ∀ Hw, NXM M H Hw → MOk M Hw → t { nx := fun σ' H' => W 0 Hw σ' H', rt := fun _ _ => False } (start N vs) Hw) :
    GDef P w K mg base (k + 1) f fd ps sp := by
  obtain ⟨oc, od, kV, doc, pm, an, cdv, ct, osl, rfl, lk, hcd⟩ := F.ex
  exact gdef_of lk hcd S hbd len (hbody cdv)
end
/-- a generator def by its name -/
structure CalG (P : Program) (w : World) (K : PySem.W.Frag) (mg : Str → Option Value) (base : Heap) (k : Nat) (x : Str) (ps : List Str) (sp : SpN) : Prop where
  ex : ∃ (f : Addr) (fd : FuncData), mg x = some (.ref f) ∧ PySem.W.keepIn K (.ref f) = true ∧ Binds K fd ps [] ∧ GDef P w K mg base k f fd ps sp
end Hd
set_option maxHeartbeats 4000000
/-! A generator walked: for x in g, for i, x in enumerate(g), [.. for x in g for y in x]. -/
namespace Hd
open PySem PySem.Spec PyProof.Rows L2

/-- a generator that this def walks: turn i is to come -/
structure Zz (X : Cx) (A1 : Around) (os : OsState) (a g : Nat) (go : Obj) (M : List Addr) (G : GPr) (n i : Nat) (H : Hp) (s : Shared) : Prop where
  isgen : ∀ h : Heap, h.get? a = some go → h.IsGen a g
  fields : ∃ vs, go.data = .fields vs
  cls : go.cls = .type "generator"
  gen : ∃ gs, s.gens[g]? = some gs ∧ (i = 0 ∨ ∃ k l c p fs cl, gs = .suspended k l c p fs cl) ∧ ∃ Hy, Slp X.prog X.w X.K X.mg X.base A1.in1 X.stack os a go M G (n - i) i gs Hy ∧ Hy a = some (extO a go) ∧ ButM M Hy H
  am : a ∉ M
section
variable {X : Cx} {A1 : Around} {os : OsState} {a g : Nat} {go : Obj} {M : List Addr} {G : GPr} {n i : Nat} {pins : List (Addr × Obj)} {σ : L2.St} {H : Hp} {s : Shared}
theorem Zz.obj (z : Zz X A1 os a g go M G n i H s) : H a = some (extO a go) := by
  obtain ⟨gs, _, _, Hy, _, h1, h2⟩ := z.gen
  exact h2 a _ z.am h1
/-- behind the body of a turn -/
theorem Zz.next {H' : Hp} {s' : Shared} (z : Zz X A1 os a g go M G n i H s) (hi : i ≠ 0) (hb : ButM M H H') (dr : Dream s.gens s'.gens) : Zz X A1 os a g go M G n i H' s' := by
  obtain ⟨gs, h1, h2, Hy, h3, h4, h5⟩ := z.gen
  refine ⟨z.isgen, z.fields, z.cls, ⟨gs, ?_, h2, Hy, h3, h4, fun b o nb e => hb b o nb (h5 b o nb e)⟩, z.am⟩
  rcases h2 with h2 | ⟨k, l, c, p, fs, cl, rfl⟩
  · exact absurd h2 hi
  · exact dr g k l c p fs cl h1
theorem ready_of (I : Inv X pins σ H s) (hf : A1.frames = some X.stack) (ho : s.os = os) {Hy : Hp} (hb : ButM M Hy H) (hm : MOk M H) : Ready X.prog X.w X.K X.mg X.base A1.in1 X.stack os M Hy (s.setGen g .running) H := by
  have e := I.env0
  exact ⟨⟨hf, e.mod, e.bs, e.bsz, e.funs, e.frf, e.hok, allBare_setGen e.bare rfl⟩, ho, hb, hm⟩
/-- what the def knows when the generator has handed out or ended -/
theorem Inv.seen {H3 : Hp} {s3 s2 : Shared} {h' : Heap} {G' : Array GenState} (I : Inv X pins σ H s) (e1 : s2.heap = s.heap) (e2 : s2.os = s.os) (q : Seen X.prog X.w X.stack a go s2 H s3 H3) (hb : AllBare G')
    (hk : ∀ b o, s3.heap.get? b = some o → h'.get? b = some o) : Inv X pins σ H3 { s3 with heap := h', gens := G' } := by
  refine I.call' (ch := []) (q.os.trans e2) ?_ (q.hok.kept hk) hb fun b z => by simp at z
  have u := q.un
  rw [e1] at u
  exact u.trans (Un.kept hk)
/-- g.__next__() of the generator walked, where an item comes -/
theorem gen_item (hh : A1.handled = none) (hf : A1.frames = some X.stack) (hd : A1.depth < recursionLimit) (I : Inv X pins σ H s) (ho : s.os = os) (z : Zz X A1 os a g go M G n i H s) (hm : MOk M H) (hi : i < n) {Q : Option Value → Shared → Prop} {E : Value → Shared → Prop}
    (hQ : ∀ v s1 x H1 Hw Hi, RelV x v → Inv X pins σ H1 s1 → Zz X A1 os a g go M G n (i + 1) H1 s1 → NX H Hw → G.out i Hw x Hi → NX Hi H1 → H1 a = some (extO a go) → Q (some v) s1) :
    wpAny (model X.prog X.w) A1 (callSpecial? (.ref a) "__next__") Q E s := by
  obtain ⟨gs, h1, h2, Hy, h3, h4, h5⟩ := id z.gen
  obtain ⟨m, em⟩ : ∃ m, n - i = m + 1 := ⟨n - i - 1, by omega⟩
  rw [em] at h3
  have hgl : g < s.gens.size := (Array.getElem?_eq_some_iff.mp h1).1
  have ha : s.heap.IsGen a g := z.isgen _ (extO_at I.hok z.obj)
  refine GenW.wpAny_gsz (n := g + 1) hgl ?_
  refine special_woken hh I.nolimit hd ha h1 (h3.2 _ H (ready_of I hf ho h5 hm)) (fun e s1 q => ?_) (fun v gd l k c p fs s1 q hsz => ?_) fun r s1 q => ?_
  · obtain ⟨v, l, k, c, p, fs, rfl, hg, _⟩ := q
    show (!(false || fs.any Frame.guarded)) = true
    rw [hg]; rfl
  · obtain ⟨v', l', k', c', p', fs', e, hg, x, H3, Hw, Hi, rv, sn, n1, ho3, n2, sl⟩ := q
    cases e
    have hs1 : g < s1.gens.size := by
      have q : (s1.setGen g (GenState.suspended k l c p fs (false || fs.any Frame.guarded))).gens.size = s1.gens.size := GenW.setGen_size _ _ _
      rw [q] at hsz
      exact hsz
    have eg : (false || fs.any Frame.guarded) = false := by rw [hg]; rfl
    rw [eg]
    have I3 : Inv X pins σ H3 (s1.setGen g (.suspended k l c p fs false)) := Inv.seen (s2 := s.setGen g .running) (h' := s1.heap) I rfl rfl sn (allBare_setGen sn.bare rfl) fun _ _ q => q
    refine hQ v _ x H3 Hw Hi rv I3 ⟨z.isgen, z.fields, z.cls, ⟨_, setGen_at hs1, .inr ⟨k, l, c, p, fs, false, rfl⟩, H3, ?_, sn.obj, fun b o _ q => q⟩, z.am⟩ n1 ho3 n2 sn.obj
    have em : n - (i + 1) = m := by omega
    rw [em]
    exact sl
  · obtain ⟨_, _, _, _, _, _, e, _⟩ := q
    cases e
/-- .. where it ends -/
theorem gen_done (hh : A1.handled = none) (hf : A1.frames = some X.stack) (hd : A1.depth < recursionLimit) (I : Inv X pins σ H s) (ho : s.os = os) (z : Zz X A1 os a g go M G n n H s) (hm : MOk M H) {Q : Option Value → Shared → Prop} {E : Value → Shared → Prop}
    (hE : ∀ e s1 H1 Hw Hi, Stopped e s1.heap → Inv X pins σ H1 s1 → NX H Hw → G.fin n Hw Hi → NX Hi H1 → E e s1) :
    wpAny (model X.prog X.w) A1 (callSpecial? (.ref a) "__next__") Q E s := by
  obtain ⟨gs, h1, h2, Hy, h3, h4, h5⟩ := id z.gen
  rw [Nat.sub_self] at h3
  have ha : s.heap.IsGen a g := z.isgen _ (extO_at I.hok z.obj)
  refine special_woken hh I.nolimit hd ha h1 (h3.2 _ H (ready_of I hf ho h5 hm)) (fun e s1 q => ?_) (fun v gd l k c p fs s1 q => ?_) fun r s1 q => ?_
  · obtain ⟨r, rfl, _⟩ := q
    rfl
  · obtain ⟨r, e, _⟩ := q
    cases e
  · obtain ⟨r', e, hr, H3, Hw, Hi, sn, n1, hf3, n2⟩ := q
    cases e
    refine ⟨hr, fun e h' hk st => ?_⟩
    exact hE e _ H3 Hw Hi st (Inv.seen (s3 := s1) (s2 := s.setGen g .running) (h' := h') I rfl rfl sn (allBare_setGen sn.bare rfl) hk) n1 hf3 n2
end

/-! ### the generator's making -/
/-- an expression whose value is a generator: what it promises, how many turns, where it is -/
abbrev TGm := L2.St → Hp → ((List Addr → GPr) → Nat → Addr → Hp → Prop) → Prop
structure PGm (X : Cx) (k : Nat) (e : Expr) (t : TGm) : Prop where
  run : ∀ (pins : List (Addr × Obj)) (s : Shared) (σ : L2.St) (H : Hp) (cont : (List Addr → GPr) → Nat → Addr → Hp → Prop), Inv X pins σ H s → t σ H cont → wpAny (model X.prog X.w) X.A (eval e X.env)
    (fun u s' => ∃ (G : List Addr → GPr) (n a g : Nat) (go : Obj) (gs : GenState) (H' H1 : Hp) (s1 : Shared), u = .ref a ∧ Inv X pins σ H' s' ∧ s1.os = s'.os ∧ Made X.prog X.w X.K X.mg X.base k X.stack s1 H1 G n a g go gs H' s' ∧ cont G n a H') X.xe s
def tGm (sp : SpN) (t : TA) : TGm := fun σ H cont => t σ H fun vs H1 => ∃ (G : List Addr → GPr) (n : Nat), sp vs H1 G n ∧ ∀ a H', Same H1 H' → (∀ b, H1 b = none → H' b = none ∨ ∃ φ, H' b = some (.ext φ)) → cont G n a H'
section
variable {X : Cx} {k : Nat} {f : Addr} {fd : FuncData} {ps : List Str} {sp : SpN} {x : Str} {p pos : Pos}
theorem pgm_call {e : Expr} {es : List Expr} {t : TA} (F : GDef X.prog X.w X.K X.mg X.base k f fd ps sp) (hr : Room k X.A) (hg : Gl X x) (hm : X.mg x = some (.ref f)) (hk : PySem.W.keepIn X.K (.ref f) = true) (hb : Binds X.K fd ps [])
    (ha : PA X (e :: es) t) (hdb : (x == ("__debug__" : Str)) = false := by decide) (he : starEach (e :: es) X.env = (false, eval e X.env) :: starEach es X.env := by rfl) (hpl : (backTo pos (starEach es X.env)).any (·.1) = false := by rfl) :
    PGm X k (.Call (.Name x p) (e :: es) [] pos) (tGm sp t) := by
  refine ⟨fun pins s σ H cont I h => ?_⟩
  refine wpAny_Call_Name_kw (ld_glob I hg hm ?_ hdb)
  refine PySem.W.callWith_K (h₀ := X.base) I.ok.mod.kin hk (thn (ha.run pos pins s σ H _ I h) fun us s1 q => ?_) he hpl
  obtain ⟨vs, H1, I1, r, G, n, hsp, hc⟩ := q
  refine ⟨I1.kIn, ?_⟩
  have hl2 : us.length = ps.length := by rw [← r.length]; exact F.len _ _ _ _ hsp
  refine wpAny_call (codeAny_mono (F.run X.A X.stack s1 H1 ⟨us, []⟩ us vs G n hr I1.env0 (by simpa using hb s1 us I1.kIn (by simpa using hl2)) r hsp) fun res s2 q => ?_)
  obtain ⟨a, g, go, gs, H', rfl, m⟩ := q
  refine ⟨G, n, a, g, go, gs, H', H1, s1, rfl, I1.call' (ch := []) m.os m.un m.hok m.bare fun b z => by simp at z, m.os.symm, m, hc a H' m.same m.news⟩
theorem pgm_cal {e : Expr} {es : List Expr} {t : TA} (C : CalG X.prog X.w X.K X.mg X.base k x ps sp) (hr : Room k X.A) (hg : Gl X x)
    (ha : PA X (e :: es) t) (hdb : (x == ("__debug__" : Str)) = false := by decide) (he : starEach (e :: es) X.env = (false, eval e X.env) :: starEach es X.env := by rfl) (hpl : (backTo pos (starEach es X.env)).any (·.1) = false := by rfl) :
    PGm X k (.Call (.Name x p) (e :: es) [] pos) (tGm sp t) := by
  obtain ⟨f, fd, hm, kp, hb, F⟩ := C.ex
  exact pgm_call F hr hg hm kp hb ha hdb he hpl
/-- the walk begins -/
theorem Zz.begin {s1 s' : Shared} {H1 H' : Hp} {a g n : Nat} {go : Obj} {gs : GenState} {G : List Addr → GPr} {A1 : Around} {M : List Addr} (m : Made X.prog X.w X.K X.mg X.base k X.stack s1 H1 G n a g go gs H' s') (hgo : ∃ vs, go.data = .fields vs) (hcl : go.cls = .type "generator")
    (hr : Room k A1.in1) (hf : A1.frames = some X.stack) {s2 : Shared} {H2 : Hp} (hg : s2.gens = s'.gens) (sm : Same H' H2) (hM : ∀ b ∈ M, ∀ o, H' b = some o → Own o) : Zz X A1 s1.os a g go M (G M) n 0 H2 s2 := by
  refine ⟨m.isgen, hgo, hcl, ⟨gs, by rw [hg]; exact m.gen, .inl rfl, H', m.slp M A1.in1 hr hf hM, m.obj, fun b o _ e => sm b o e⟩, fun z => (hM a z _ m.obj).nx _ rfl⟩
end

/-! ### for x in g -/
def tForG (t : TGm) (g : TG) (tb : TS) : TS := fun D σ H => t σ H fun G n a H1 => ∃ M : List Addr, MOk M H1 ∧ ∃ W : Nat → L2.St → Hp → Prop, W 0 σ H1 ∧
  (∀ i σ H, i < n → W i σ H → ∀ x Hw Hi H', NX H Hw → (G M).out i Hw x Hi → NX Hi H' → g x σ H' fun σ2 H2 => tb { D with nx := fun σ3 H3 => ButM M H' H3 ∧ MOk M H3 ∧ W (i + 1) σ3 H3, ct := fun σ3 H3 => ButM M H' H3 ∧ MOk M H3 ∧ W (i + 1) σ3 H3, bk := D.nx } σ2 H2) ∧
  ∀ σ H, W n σ H → ∀ Hw Hi H', NX H Hw → (G M).fin n Hw Hi → NX Hi H' → D.nx σ H'
theorem Inv.back {X : Cx} {pins : List (Addr × Obj)} {σ : L2.St} {H : Hp} {s : Shared} {G : Array GenState} (I : Inv X pins σ H { s with gens := G }) (b : AllBare s.gens) : Inv X pins σ H s :=
  Inv.regen (s := { s with gens := G }) (G := s.gens) I b
theorem sp_regen {X : Cx} {pins : List (Addr × Obj)} {D : Ends} {f : Flow} {s : Shared} {G : Array GenState} (b : AllBare s.gens) (h : SP X pins D f { s with gens := G }) : SP X pins D f s := by
  cases f with
  | next => obtain ⟨σ, H, I, q⟩ := h; exact ⟨σ, H, Inv.back I b, q⟩
  | brk => obtain ⟨σ, H, I, q⟩ := h; exact ⟨σ, H, Inv.back I b, q⟩
  | cont => obtain ⟨σ, H, I, q⟩ := h; exact ⟨σ, H, Inv.back I b, q⟩
  | ret u => obtain ⟨v, σ, H, I, r, q⟩ := h; exact ⟨v, σ, H, Inv.back I b, r, q⟩
theorem sp_bare {X : Cx} {pins : List (Addr × Obj)} {D : Ends} {f : Flow} {s : Shared} (h : SP X pins D f s) : AllBare s.gens := by
  cases f with
  | next => obtain ⟨σ, H, I, q⟩ := h; exact I.bare
  | brk => obtain ⟨σ, H, I, q⟩ := h; exact I.bare
  | cont => obtain ⟨σ, H, I, q⟩ := h; exact I.bare
  | ret u => obtain ⟨v, σ, H, I, r, q⟩ := h; exact I.bare
/-- a body run: all sleepers sleep on -/
theorem body_asleep {X : Cx} {body : List Stmt} {tb : TS} (hb : PSs X.nox body tb) {pins : List (Addr × Obj)} {σ : L2.St} {H : Hp} {s : Shared} {D : Ends} (I : Inv X pins σ H s) (h : tb D σ H) :
    wpAny (model X.prog X.w) X.A (execs body X.env) (fun f s' => SP X pins D f s' ∧ Dream s.gens s'.gens) (fun _ _ => False) s := by
  have I2 : Inv X.nox pins σ H { s with gens := s.gens.map stoned } := (Inv.regen I (bare_stoned I.bare)).wish _
  refine wpAny_mono (wpAny_asleep (hb.run pins _ σ H D I2 h)) (fun f s' q => ?_) fun e s' q => ?_
  · obtain ⟨G, tw, dr, q⟩ := q
    have q' := q.unwish
    exact ⟨sp_regen (tw.bare (sp_bare q')) q', dr⟩
  · obtain ⟨_, _, _, q⟩ := q
    exact q
theorem asg_asleep {X : Cx} {tg : Expr} {g : TG} (hg : PG X.nox tg g) {pins : List (Addr × Obj)} {σ : L2.St} {H : Hp} {s : Shared} {v : V} {u : Value} {Q : L2.St → Hp → Prop} (I : Inv X pins σ H s) (r : RelV v u) (h : g v σ H Q) :
    wpAny (model X.prog X.w) X.A (assign tg X.env u) (fun _ s' => (∃ σ' H', Inv X pins σ' H' s' ∧ Q σ' H') ∧ Dream s.gens s'.gens) (fun _ _ => False) s := by
  have I2 : Inv X.nox pins σ H { s with gens := s.gens.map stoned } := (Inv.regen I (bare_stoned I.bare)).wish _
  refine wpAny_mono (wpAny_asleep (hg.run pins _ σ H v u Q I2 r h)) (fun f s' q => ?_) fun e s' q => ?_
  · obtain ⟨G, tw, dr, σ', H', I', q⟩ := q
    have I3 := I'.unwish
    exact ⟨⟨σ', H', Inv.back I3 (tw.bare I3.bare), q⟩, dr⟩
  · obtain ⟨_, _, _, q⟩ := q
    exact q
theorem Dream.then {G G1 G2 : Array GenState} (a : Dream G G1) (b : Dream G1 G2) : Dream G G2 := fun i k l c p fs cl e => b i k l c p fs cl (a i k l c p fs cl e)
theorem ps_forG {X : Cx} {k : Nat} {x : Str} {xp pos : Pos} {iter : Expr} {body : List Stmt} {t : TGm} {g : TG} {tb : TS} (hp : PassesOwn (model X.prog X.w) X.A X.env X.xe) (hr : Room (k + 1) X.A) (hi : PGm X k iter t) (hg : PG X.nox (.Name x xp) g) (hb : PSs X.nox body tb)
    (hs : ∀ x, foldedSetIterable iter X.env x = pure x := by intro _; rfl) : PS X (.For (.Name x xp) iter body [] pos) (tForG t g tb) := by
  refine ⟨fun pins s σ H D I h => ?_⟩
  refine wpAny_For (thn (hi.run pins s σ H _ I h) fun v s1 q => ?_) hs
  obtain ⟨G, n, a, gn, go, gs, H1, H0, s0, rfl, I1, os0, m, M, hM, W, w0, turn, stop⟩ := q
  have ig : s1.heap.IsGen a gn := m.isgen _ (extO_at I1.hok m.obj)
  refine wpAny_pyIter_gen ig ?_
  have hgo : (∃ vs, go.data = .fields vs) ∧ go.cls = .type "generator" := by
    obtain ⟨o, nm, qn, ho, hc, hd, _⟩ := ig
    rw [extO_at I1.hok m.obj] at ho
    cases ho
    exact ⟨⟨_, hd⟩, hc⟩
  have z0 : Zz X X.A s0.os a gn go M (G M) n 0 H1 s1 := Zz.begin m hgo.1 hgo.2 hr.in1 I1.ok.frames rfl (fun _ _ e => e) fun b hb o e => by
    obtain ⟨o', ow, e'⟩ := hM b hb
    rw [e] at e'; cases e'; exact ow
  have hd : X.A.depth < recursionLimit := by have := hr.dp; omega
  refine codeAny_forLoop_any (fun r s' => ∃ i σ' H', r + i = n ∧ Inv X pins σ' H' s' ∧ Zz X X.A s0.os a gn go M (G M) n i H' s' ∧ MOk M H' ∧ W i σ' H') ?_ n ⟨0, σ, H1, by omega, I1, z0, hM, w0⟩
  rintro r s3 ⟨i, σ3, H3, hri, I3, z3, m3, w3⟩
  have os3 : s3.os = s0.os := I3.os.trans (I1.os.symm.trans os0.symm)
  by_cases hin : i < n
  · refine wpAny_passesOwn hp (next_of_special (gen_item hr.hd I3.ok.frames hd I3 os3 z3 m3 hin fun v s4 y H4 Hw Hi rv I4 z4 n1 ho n2 ha4 => ⟨by simp, ?_⟩))
    refine wpAny_passesOwn hp ?_
    refine go_of (extO_at I4.hok ha4) hgo.2 hgo.1.choose_spec (by decide) ?_
    refine wpAny_passesOwn hp (wpAny_mono (asg_asleep hg I4 rv (turn i σ3 H3 hin w3 y Hw Hi H4 n1 ho n2)) (fun _ s5 q => ?_) fun _ _ z => False.elim z)
    obtain ⟨⟨σ5, H5, I5, q5⟩, d5⟩ := q
    refine wpAny_passesOwn hp (wpAny_mono (body_asleep hb I5 q5) (fun f s6 q => ?_) fun _ _ z => False.elim z)
    obtain ⟨q6, d6⟩ := q
    have again : ∀ {σ6 : L2.St} {H6 : Hp}, Inv X pins σ6 H6 s6 → (ButM M H4 H6 ∧ MOk M H6 ∧ W (i + 1) σ6 H6) → ∃ m, m < r ∧ ∃ i σ' H', m + i = n ∧ Inv X pins σ' H' s6 ∧ Zz X X.A s0.os a gn go M (G M) n i H' s6 ∧ MOk M H' ∧ W i σ' H' := fun {σ6 H6} I6 q => by
      obtain ⟨b6, m6, w6⟩ := q
      exact ⟨r - 1, by omega, i + 1, σ6, H6, by omega, I6, z4.next (Nat.succ_ne_zero i) b6 (d5.then d6), m6, w6⟩
    cases f with
    | next => obtain ⟨σ6, H6, I6, q⟩ := q6; exact again I6 q
    | cont => obtain ⟨σ6, H6, I6, q⟩ := q6; exact again I6 q
    | brk => obtain ⟨σ6, H6, I6, q⟩ := q6; exact ⟨σ6, H6, I6, q⟩
    | ret v => obtain ⟨x6, σ6, H6, I6, r6, q⟩ := q6; exact ⟨x6, σ6, H6, I6, r6, q⟩
  · have e : i = n := by omega
    subst e
    refine wpAny_passesOwn hp (next_of_special (gen_done hr.hd I3.ok.frames hd I3 os3 z3 m3 fun e s4 H4 Hw Hi st I4 n1 hf n2 => ⟨st, ?_⟩))
    exact wpAny_execs_nil ⟨σ3, H4, I4, stop σ3 H3 w3 Hw Hi H4 n1 hf n2⟩
end Hd
set_option maxHeartbeats 4000000
/-! for i, x in enumerate(g) -/
namespace Hd
open PySem PySem.Spec PyProof.Rows L2
open AutoSeq1 (wpAny_loadPart')

/-- an enumerate object over q -/
abbrev enumO (q : Addr) (i : Int) (old : Value) : Obj := { cls := .type "enumerate", dict := none, data := .fields #[.none, .bool false, .ref q, rawInt i, .none, old], slots := #[] }
theorem enumNewG (q : Addr) (g : Nat) (o : Obj) (hc : o.cls = .type "generator") :
    Meets (Builtin.«enumerate.__new__» ⟨[.type "enumerate", .ref q], []⟩) (fun _ R s => s.heap.get? q = some o ∧ s.heap.IsGen q g ∧
      R (.ok (.ret (.ref s.heap.objs.size))) ⟨s.heap.push (enumO q 0 .none), s.gens, s.drawn, s.toks, s.os⟩) :=
  .of_wp fun P0 w0 A0 R0 s0 k0 => by
    obtain ⟨h0, g0, d0, t0, o0⟩ := s0
    obtain ⟨hq, ig, k0⟩ := k0
    obtain ⟨oc, od, dt, so⟩ := o
    replace hc : oc = .type "generator" := hc
    subst hc
    have subE := sub_enumerate
    have isG : Heap.IsGen (Shared.heap ⟨h0, g0, d0, t0, o0⟩) q g := ig
    wp_walk using wpAny_loadPart' hq
    refine wpAny_stack_any fun _ => wpAny_pure ?_
    split
    · rename_i c _ _ _ _ _
      cases (c == Value.type "enumerate") <;> (wp_walk using wpAny_loadPart' hq, wpAny_pyIter_gen isG; exact ⟨_, rfl, k0⟩)
    · wp_walk using wpAny_loadPart' hq, wpAny_pyIter_gen isG
      exact ⟨_, rfl, k0⟩
theorem enumCallG {prog : Program} {w : World} {A : Around} {E : Value → Shared → Prop} {s : Shared} {q g : Nat} {Q : Value → Shared → Prop} (ig : s.heap.IsGen q g)
    (k : Q (.ref s.heap.objs.size) { s with heap := s.heap.push (enumO q 0 .none) }) : wpAny (model prog w) A (call (.type "enumerate") [.ref q]) Q E s := by
  obtain ⟨o, nm, qn, ho, hc, _⟩ := id ig
  refine callType_new F.called_enumerate (by decide) (F.typeCall_enumerate_1 _) (F.newCall_enumerate_1 _) (fun obj => F.args_object_init_2 obj _) F.entry_enumerate_new (enumNewG q g o hc) ⟨ho, ig, ?_⟩
  exact ⟨⟨_, Heap.get?_push_size _ rfl, rfl⟩, k⟩

section
variable {X : Cx} {os : OsState} {a g : Nat} {go : Obj} {M : List Addr} {G : GPr} {n i : Nat} {pins : List (Addr × Obj)} {σ : L2.St} {H : Hp} {s : Shared} {e : Addr} {old : Value} {elts : List Expr} {kk : Nat} {tpos : Pos}
theorem enum_item (hh : X.A.handled = none) (hd : X.A.depth < recursionLimit) (I : Inv X pins σ H s) (ho : s.os = os) (z : Zz X X.A.in1 os a g go M G n i H s) (hm : MOk M H) (hi : i < n) (he : s.heap.get? e = some (enumO a (i : Int) old)) (hf : FpOk X pins H e) {E : Value → Shared → Prop}
    {Q : Addr → Shared → Prop}
    (hQ : ∀ T s1 x H1 Hw Hi old', Inv X pins σ (upd H1 T (.tup [.int (i : Nat), x])) s1 → H1 T = none → H1 e = none → Zz X X.A.in1 os a g go M G n (i + 1) (upd H1 T (.tup [.int (i : Nat), x])) s1 → NX H Hw → G.out i Hw x Hi → NX Hi H1 → s1.heap.get? e = some (enumO a ((i + 1 : Nat) : Int) old') → Q T s1) :
    wpAny (model X.prog X.w) X.A (pyNext (.ref e)) (fun r s1 => ∃ T, r = some (.ref T) ∧ wpAny (model X.prog X.w) X.A (letOwnedTupleGo (.Tuple elts kk tpos) (.ref e) (.ref T)) (fun _ s2 => Q T s2) E s1) E s := by
  have hT : s.TypeIs (.ref e) "enumerate" := ⟨_, he, rfl⟩
  refine next_of_special ?_
  refine wpAny_callSpecial?_slot (name := Str.ofString "__next__") hT F.slot_enumerate_next ?_
  refine wpAny_call_entry F.slot_enumerate_next hT F.entry_enumerate_next ?_ (F.args_enumerate_next_1 _)
  show wpAny _ X.A.in1 (field (.ref e) 2 >>= _) _ _ s
  refine wpAny_bind (wpAny_field he rfl (x := .ref a) rfl ?_)
  have Ie : Inv X ((e, enumO a (i : Int) old) :: pins) σ H s := I.pins_of fun p hp => by
    rcases List.mem_cons.mp hp with hp | hp
    · subst hp
      exact ⟨he, hf.1, hf.2.1, hf.2.2.1, fun v q => by cases q⟩
    · exact I.pin p (List.mem_append_right _ hp)
  refine wpAny_bind (nextOf_of_special (gen_item (A1 := X.A.in1) hh I.ok.frames hd Ie ho z hm hi fun v s1 x H1 Hw Hi rv J zz n1 ho1 n2 ha1 => ⟨v, rfl, ?_⟩))
  obtain ⟨pe, pn, _⟩ := J.pin (e, enumO a (i : Int) old) (List.mem_append_right _ List.mem_cons_self)
  have pe : s1.heap.get? e = some (enumO a (i : Int) old) := pe
  have J1 : Inv X pins σ H1 s1 := J.pins_of fun p hp => J.pin p (List.mem_append_right _ (List.mem_cons_of_mem _ hp))
  have fe : FpOk X pins H1 e := ⟨pn, hf.2⟩
  obtain ⟨h1, g1, d1, t1, o1⟩ := s1
  replace pe : h1.get? e = some (enumO a (i : Int) old) := pe
  refine wpAny_bind (wpAny_field pe rfl (x := rawInt (i : Int)) rfl ?_)
  refine wpAny_bind (wpAny_field pe rfl (x := .none) rfl ?_)
  show wpAny _ _ (mkInt (i : Int) >>= _) _ _ _
  refine wpAny_bind (wpAny_mkInt ?_)
  refine wpAny_bind (wpAny_setField_rec pe (by simp) fun h2 e2 k2 => ?_)
  replace e2 : h2.get? e = some (enumO a ((i : Int) + 1) old) := e2
  refine wpAny_bind (wpAny_setField_rec e2 (by simp) fun h3 e3 k3 => ?_)
  replace e3 : h3.get? e = some (enumO a ((i : Int) + 1) old) := e3
  refine wpAny_bind (wpAny_newTuple ?_)
  have lt : e < h1.objs.size := Heap.lt_size pe
  have sz : h3.objs.size = h1.objs.size := k3.1.trans k2.1
  have e4 : (h3.push { cls := .type "tuple", data := .seq #[.int (i : Int) t1, v] }).get? e = some (enumO a ((i : Int) + 1) old) := Heap.get?_push_of_some _ e3
  have T4 : (h3.push { cls := .type "tuple", data := .seq #[.int (i : Int) t1, v] }).get? h1.objs.size = some { cls := .type "tuple", data := .seq #[.int (i : Int) t1, v] } := by
    rw [← sz]; exact Heap.get?_push_size _ rfl
  have K4 : ∀ b o, b ≠ e → h1.get? b = some o → (h3.push { cls := .type "tuple", data := .seq #[.int (i : Int) t1, v] }).get? b = some o := fun b o nb q =>
    Heap.get?_push_of_some _ ((k3.2 b nb).trans ((k2.2 b nb).trans q))
  rw [sz]
  generalize h3.push { cls := .type "tuple", data := .seq #[.int (i : Int) t1, v] } = h4 at e4 T4 K4 ⊢
  refine wpAny_bind ?_
  unfold Builtin.SmallTypes.ownedTupleIsFree
  refine wpAny_bind (wpAny_field e4 rfl (x := .none) rfl (wpAny_pure ?_))
  simp only [if_true]
  refine wpAny_bind (wpAny_rule ?_)
  refine wpAny_bind (wpAny_field e4 rfl (x := old) rfl ?_)
  refine wpAny_bind (wpAny_setField_rec e4 (by simp) fun h5 e5 k5 => ?_)
  replace e5 : h5.get? e = some (enumO a ((i : Int) + 1) v) := e5
  refine wpAny_bind ?_
  unfold Builtin.SmallTypes.ownedTupleHandOut
  refine wpAny_bind (wpAny_setField_rec e5 (by simp) fun h6 e6 k6 => ?_)
  replace e6 : IsEnumOut h6 e a ((i : Int) + 1) v h1.objs.size := e6
  refine wpAny_setField_rec e6 (by simp) fun h7 e7 k7 => ?_
  replace e7 : IsEnumOut h7 e a ((i : Int) + 1) v h1.objs.size := e7
  refine wpAny_bind (wpAny_letGo (wpAny_pure ⟨_, rfl, by simp, h1.objs.size, rfl, ?_⟩))
  refine wpAny_letOwnedTupleGo_enum (s := ⟨h7, g1, d1, t1 + 1, o1⟩) e7 fun h8 e8 k8 => ?_
  have K8 : ∀ b o, b ≠ e → h4.get? b = some o → h8.get? b = some o := fun b o nb q => (k8.2 b nb).trans ((k7.2 b nb).trans ((k6.2 b nb).trans ((k5.2 b nb).trans q)))
  have T8 := K8 _ _ (Nat.ne_of_gt lt) T4
  have nT : H1 h1.objs.size = none := J1.hok.fresh (Nat.le_refl _)
  have new : ObjOk X.prog X.w (upd H1 h1.objs.size (.tup [.int (i : Nat), x])) h8 h1.objs.size (.tup [.int (i : Nat), x]) :=
    ⟨by show 2 ≤ sizeLine; decide, [.int (i : Int) t1, v], .cons ⟨_, rfl⟩ (.cons rv .nil), ⟨_, T8, rfl, _, rfl⟩⟩
  have J2 : Inv X pins σ (upd H1 h1.objs.size (.tup [.int (i : Nat), x])) ⟨h8, g1, d1, t1 + 1, o1⟩ :=
    J1.turnedNew (t' := t1 + 1) (h' := h8) (ch := [e]) (fun b ob hb q => K8 b ob (fun z => hb (by simp [z])) (K4 b ob (fun z => hb (by simp [z])) q)) (fun b hb => by
      rw [List.mem_singleton.mp hb]; exact fe) (Nat.le_refl _) new
  refine hQ h1.objs.size _ x H1 Hw Hi v J2 nT pn (zz.next (Nat.succ_ne_zero i) (fun b o _ q => ?_) fun _ _ _ _ _ _ _ q => q) n1 ho1 n2 ?_
  · rw [upd_ne (ne_of_none q nT)]; exact q
  · have e1 : ((i + 1 : Nat) : Int) = (i : Int) + 1 := by omega
    rw [e1]
    exact e8
theorem enum_done (hh : X.A.handled = none) (hd : X.A.depth < recursionLimit) (I : Inv X pins σ H s) (ho : s.os = os) (z : Zz X X.A.in1 os a g go M G n n H s) (hm : MOk M H) (he : s.heap.get? e = some (enumO a (n : Int) old)) {E : Value → Shared → Prop} {Q : Shared → Prop}
    (hQ : ∀ s1 H1 Hw Hi, Inv X pins σ H1 s1 → NX H Hw → G.fin n Hw Hi → NX Hi H1 → Q s1) :
    wpAny (model X.prog X.w) X.A (pyNext (.ref e)) (fun r s1 => r = none ∧ Q s1) E s := by
  have hT : s.TypeIs (.ref e) "enumerate" := ⟨_, he, rfl⟩
  unfold pyNext
  refine wpAny_bind (wpAny_attempt ?_)
  refine wpAny_callSpecial?_slot (name := Str.ofString "__next__") hT F.slot_enumerate_next ?_
  refine wpAny_call_entry F.slot_enumerate_next hT F.entry_enumerate_next ?_ (F.args_enumerate_next_1 _)
  show wpAny _ X.A.in1 (field (.ref e) 2 >>= _) _ _ s
  refine wpAny_bind (wpAny_field he rfl (x := .ref a) rfl ?_)
  refine wpAny_bind (nextOf_of_special (gen_done (A1 := X.A.in1) hh I.ok.frames hd I ho z hm fun x s1 H1 Hw Hi st I1 n1 hf n2 => ?_))
  obtain ⟨b, o, rfl, hb, hc⟩ := st
  refine wpAny_bind (wpAny_isInstance (T := "StopIteration") (b := true) ⟨o, hb, hc⟩ isSubtype_stop ?_)
  exact wpAny_pure ⟨rfl, hQ s1 H1 Hw Hi I1 n1 hf n2⟩
end
def tForE (t : TGm) (g : TG) (tb : TS) : TS := fun D σ H => t σ H fun G n a H1 => ∃ M : List Addr, MOk M H1 ∧ ∃ W : Nat → L2.St → Hp → Prop, W 0 σ H1 ∧
  (∀ i σ H, i < n → W i σ H → ∀ x Hw Hi H' T, NX H Hw → (G M).out i Hw x Hi → NX Hi H' → H' T = none → g (.ref T) σ (upd H' T (.tup [.int (i : Nat), x])) fun σ2 H2 =>
    tb { D with nx := fun σ3 H3 => ButM M (upd H' T (.tup [.int (i : Nat), x])) H3 ∧ MOk M H3 ∧ W (i + 1) σ3 H3, ct := fun σ3 H3 => ButM M (upd H' T (.tup [.int (i : Nat), x])) H3 ∧ MOk M H3 ∧ W (i + 1) σ3 H3, bk := D.nx } σ2 H2) ∧
  ∀ σ H, W n σ H → ∀ Hw Hi H', NX H Hw → (G M).fin n Hw Hi → NX Hi H' → D.nx σ H'
theorem ps_forE {X : Cx} {k : Nat} {elts : List Expr} {kk : Nat} {tpos pos p epos : Pos} {iter : Expr} {body : List Stmt} {t : TGm} {g : TG} {tb : TS} (hp : PassesOwn (model X.prog X.w) X.A X.env X.xe) (hr : Room (k + 2) X.A) (hgl : Gl X "enumerate") (hmg : X.mg "enumerate" = none)
    (hi : PGm X k iter t) (hg : PG X.nox (.Tuple elts kk tpos) g) (hb : PSs X.nox body tb) (hst : starEach [iter] X.env = (false, eval iter X.env) :: starEach [] X.env := by rfl)
    (hs : ∀ x, foldedSetIterable (.Call (.Name "enumerate" p) [iter] [] epos) X.env x = pure x := by intro _; rfl) : PS X (.For (.Tuple elts kk tpos) (.Call (.Name "enumerate" p) [iter] [] epos) body [] pos) (tForE t g tb) := by
  refine ⟨fun pins s σ H D I h => ?_⟩
  refine wpAny_For ?_ hs
  refine Call_ (ld_blt I hgl hmg boot_enumerate (PyProof.Rows.callWith_type1 ?_ hst rfl))
  rw [hst]
  refine Calls.spliced_cons (thn (hi.run pins s σ H _ I h) fun v s1 q => ?_)
  refine Calls.spliced_nil ?_
  obtain ⟨G, n, a, gn, go, gs, H1, H0, s0, rfl, I1, os0, m, M, hM, W, w0, turn, stop⟩ := q
  have ig : s1.heap.IsGen a gn := m.isgen _ (extO_at I1.hok m.obj)
  have hgo : (∃ vs, go.data = .fields vs) ∧ go.cls = .type "generator" := by
    obtain ⟨o, nm, qn, ho, hc, hd, _⟩ := ig
    rw [extO_at I1.hok m.obj] at ho
    cases ho
    exact ⟨⟨_, hd⟩, hc⟩
  refine enumCallG ig ?_
  have I2 : Inv X pins σ H1 { s1 with heap := s1.heap.push (enumO a 0 .none) } := I1.kept (t' := s1.toks) fun b o e => Heap.get?_push_of_some _ e
  have e2 : (s1.heap.push (enumO a 0 .none)).get? s1.heap.objs.size = some (enumO a ((0 : Nat) : Int) .none) := Heap.get?_push_size _ rfl
  refine wpAny_pyIter_enum (s := { s1 with heap := s1.heap.push (enumO a 0 .none) }) e2 ?_
  have f2 : FpOk X pins H1 s1.heap.objs.size := I1.fpOk (Nat.le_refl _) (I1.hok.fresh (Nat.le_refl _))
  have z0 : Zz X X.A.in1 s0.os a gn go M (G M) n 0 H1 { s1 with heap := s1.heap.push (enumO a 0 .none) } := Zz.begin m hgo.1 hgo.2 hr.in1.in1 I1.ok.frames rfl (fun _ _ e => e) fun b hb o e => by
    obtain ⟨o', ow, e'⟩ := hM b hb
    rw [e] at e'; cases e'; exact ow
  have hd : X.A.depth < recursionLimit := by have := hr.dp; omega
  generalize s1.heap.objs.size = E at e2 f2 ⊢
  generalize hs2 : ({ s1 with heap := s1.heap.push (enumO a 0 .none) } : Shared) = s2 at I2 z0 ⊢
  have e2' : s2.heap.get? E = some (enumO a ((0 : Nat) : Int) .none) := by rw [← hs2]; exact e2
  have o2 : s2.os = s1.os := by rw [← hs2]
  refine codeAny_forLoop_any (fun r s' => ∃ i σ' H' old, r + i = n ∧ Inv X pins σ' H' s' ∧ Zz X X.A.in1 s0.os a gn go M (G M) n i H' s' ∧ MOk M H' ∧ s'.heap.get? E = some (enumO a ((i : Nat) : Int) old) ∧ H' E = none ∧ W i σ' H') ?_ n ⟨0, σ, H1, _, by omega, I2, z0, hM, e2', f2.1, w0⟩
  rintro r s3 ⟨i, σ3, H3, old, hri, I3, z3, m3, e3, fE, w3⟩
  have os3 : s3.os = s0.os := I3.os.trans (I1.os.symm.trans os0.symm)
  by_cases hin : i < n
  · refine wpAny_passesOwn hp (wpAny_mono (enum_item (E := X.xe) (elts := elts) (kk := kk) (tpos := tpos) (Q := fun T s4 => ∃ x H4 Hw Hi old', Inv X pins σ3 (upd H4 T (.tup [.int (i : Nat), x])) s4 ∧ H4 T = none ∧ H4 E = none ∧ Zz X X.A.in1 s0.os a gn go M (G M) n (i + 1) (upd H4 T (.tup [.int (i : Nat), x])) s4 ∧
      NX H3 Hw ∧ (G M).out i Hw x Hi ∧ NX Hi H4 ∧ s4.heap.get? E = some (enumO a ((i + 1 : Nat) : Int) old')) hr.hd hd I3 os3 z3 m3 hin e3 ⟨fE, f2.2⟩ fun T s4 x H4 Hw Hi old' a1 a2 a3 a4 a5 a6 a7 a8 => ⟨x, H4, Hw, Hi, old', a1, a2, a3, a4, a5, a6, a7, a8⟩) (fun rr s4 q => ?_) fun _ _ z => z)
    obtain ⟨T, rfl, q⟩ := q
    refine wpAny_passesOwn hp (thn q fun _ s5 q => ?_)
    obtain ⟨x, H4, Hw, Hi, old', I5, nT, nE, z5, n1, ho, n2, e5⟩ := q
    have lT : E ≠ T := fun z => by
      have q := I5.hok T _ upd_same
      obtain ⟨_, its, _, o, q1, q2, _⟩ := q
      rw [← z, e5] at q1
      cases q1
      exact absurd (show (Value.type "enumerate") = Value.type "tuple" from q2) (by decide)
    have fE5 : upd H4 T (.tup [.int (i : Nat), x]) E = none := by rw [upd_ne lT]; exact nE
    have I5' : Inv X ((E, enumO a ((i + 1 : Nat) : Int) old') :: pins) σ3 (upd H4 T (.tup [.int (i : Nat), x])) s5 := I5.pins_of fun p hp => by
      rcases List.mem_cons.mp hp with hp | hp
      · subst hp
        exact ⟨e5, fE5, f2.2.1, f2.2.2.1, fun v q => by cases q⟩
      · exact I5.pin p (List.mem_append_right _ hp)
    refine wpAny_passesOwn hp (wpAny_mono (asg_asleep hg I5' (show RelV (.ref T) (.ref T) from rfl) (turn i σ3 H3 hin w3 x Hw Hi H4 T n1 ho n2 nT)) (fun _ s6 q => ?_) fun _ _ z => False.elim z)
    obtain ⟨⟨σ6, H6, I6, q6⟩, d6⟩ := q
    refine wpAny_passesOwn hp (wpAny_mono (body_asleep hb I6 q6) (fun f s7 q => ?_) fun _ _ z => False.elim z)
    obtain ⟨q7, d7⟩ := q
    have drop : ∀ {σ7 : L2.St} {H7 : Hp}, Inv X ((E, enumO a ((i + 1 : Nat) : Int) old') :: pins) σ7 H7 s7 → Inv X pins σ7 H7 s7 ∧ s7.heap.get? E = some (enumO a ((i + 1 : Nat) : Int) old') ∧ H7 E = none := fun {σ7 H7} I7 =>
      ⟨I7.pins_of fun p hp => I7.pin p (List.mem_append_right _ (List.mem_cons_of_mem _ hp)), let z := I7.pin (E, enumO a ((i + 1 : Nat) : Int) old') (List.mem_append_right _ List.mem_cons_self); ⟨z.1, z.2.1⟩⟩
    have again : ∀ {σ7 : L2.St} {H7 : Hp}, Inv X ((E, enumO a ((i + 1 : Nat) : Int) old') :: pins) σ7 H7 s7 → (ButM M (upd H4 T (.tup [.int (i : Nat), x])) H7 ∧ MOk M H7 ∧ W (i + 1) σ7 H7) →
        ∃ m, m < r ∧ ∃ i σ' H' old, m + i = n ∧ Inv X pins σ' H' s7 ∧ Zz X X.A.in1 s0.os a gn go M (G M) n i H' s7 ∧ MOk M H' ∧ s7.heap.get? E = some (enumO a ((i : Nat) : Int) old) ∧ H' E = none ∧ W i σ' H' := fun {σ7 H7} I7 q => by
      obtain ⟨b7, m7, w7⟩ := q
      obtain ⟨J7, e7, n7⟩ := drop I7
      exact ⟨r - 1, by omega, i + 1, σ7, H7, old', by omega, J7, z5.next (Nat.succ_ne_zero i) b7 (d6.then d7), m7, e7, n7, w7⟩
    cases f with
    | next => obtain ⟨σ7, H7, I7, q⟩ := q7; exact again I7 q
    | cont => obtain ⟨σ7, H7, I7, q⟩ := q7; exact again I7 q
    | brk => obtain ⟨σ7, H7, I7, q⟩ := q7; exact ⟨σ7, H7, (drop I7).1, q⟩
    | ret v => obtain ⟨x7, σ7, H7, I7, r7, q⟩ := q7; exact ⟨x7, σ7, H7, (drop I7).1, r7, q⟩
  · have e : i = n := by omega
    subst e
    refine wpAny_passesOwn hp (wpAny_mono (enum_done (E := X.xe) (Q := fun s4 => SP X pins D .next s4) hr.hd hd I3 os3 z3 m3 e3 fun s4 H4 Hw Hi I4 n1 hf n2 => ⟨σ3, H4, I4, stop σ3 H3 w3 Hw Hi H4 n1 hf n2⟩) (fun rr s4 q => ?_) fun _ _ z => z)
    obtain ⟨rfl, q⟩ := q
    exact wpAny_execs_nil q
end Hd
set_option maxHeartbeats 4000000
/-! A comprehension's block, whatever its loop does. -/
namespace Hd
open PySem PySem.Spec PyProof.Rows L2
section
variable {X : Cx} {pins : List (Addr × Obj)} {s : Shared} {σ : L2.St} {H : Hp} {Q : VK}
/-- the block's own context -/
abbrev blkOf (X : Cx) (s3 : Shared) (H3 : Hp) (scope : Scope) (fp : List Addr) (cl : List (Str × Addr)) (C : Addr) : Cx := X.blk s3 H3 scope (compEnvC scope cl C X.env) fp
theorem blk_coreA {ex tg iter : Expr} {ifs : List Expr} {rest : List Comprehension} {scope : Scope} {own : List (Str × Nat)} {pos' : Pos} {newAcc : Sem Value} {use : Option (Value → Sem Unit)} {Qf : Value → Shared → Prop}
    (hN : X.N.Nodup) (I : Inv X pins σ H s) (ok : BlkOk X.N X.env.scope scope own) (hcl : clausesOf ex = ⟨tg, iter, ifs, 0⟩ :: rest) (hs : ∀ x, foldedSetIterable iter X.env x = pure x)
    (K : Value → List Addr → Hp → Shared → Prop) (o0 : Addr → HO) (ob0 : Obj)
    (h1 : wpAny (model X.prog X.w) X.A (eval iter X.env) (fun v s1 => wpAny (model X.prog X.w) X.A (pyIter v) (fun it s2 => ∃ fp H2, Inv X pins σ H2 s2 ∧ (∀ b ∈ fp, FpOk X pins H2 b ∧ b < s2.heap.objs.size) ∧ K it fp H2 s2) X.xe s1) X.xe s)
    (hnew : ∀ (Q' : Value → Shared → Prop) (s2 : Shared), Q' (.ref s2.heap.objs.size) { s2 with heap := s2.heap.push ob0 } → wpAny (model X.prog X.w) X.A newAcc Q' X.xe s2)
    (hob : ∀ (H' : Hp) (h : Heap), sysModules < h.objs.size → ObjOk X.prog X.w H' (h.push ob0) h.objs.size (o0 h.objs.size))
    (h2 : ∀ (it : Value) (fp : List Addr) (H2 : Hp) (s2 s3 s4 : Shared) (cl : List (Str × Addr)) (D C : Addr), K it fp H2 s2 → H2 D = none → s2.heap.objs.size = D → s3.os = s2.os → s4.gens = s2.gens → (∀ b o, s2.heap.get? b = some o → s4.heap.get? b = some o) → (∀ b ∈ fp, FpOk X pins (upd H2 D (o0 D)) b) →
      Inv (blkOf X s3 (upd H2 D (o0 D)) scope fp cl C) [] (wipe σ (own.map (·.2))) (upd H2 D (o0 D)) s4 →
      codeAny (model X.prog X.w) X.A (.compStart ex 0 it (.ref D) (compEnvC scope cl C X.env)) (fun r s' => ∃ f, r = .ok f ∧ ∃ σ' H', Inv (blkOf X s3 (upd H2 D (o0 D)) scope fp cl C) [] σ' H' s' ∧ Q (.ref D) H') s4)
    (hRR : ∀ D C s' m H', Inv X pins σ H' s' → Q (.ref D) H' → s'.heap.Ns C m → FpOk X pins H' C → compPost (model X.prog X.w) X.A X.xe use Qf (.ref D) C (.ok .next) s') :
    wpAny (model X.prog X.w) X.A (comprehension ex scope X.env pos' newAcc false (eval iter X.env) use) Qf X.xe s := by
  have hfree : ∀ y ∈ scope.names, y.2 = .free → ∃ c, X.env.cells.lookup y.1 = some c := by
    intro y hy e
    have q := ok.free y hy e
    exact I.ok.has _ q
  refine wpAny_comprehension_free (use := use) hcl hs (closure_ok hfree) ok.kind (fun y hy e => by rw [ok.uniq y hy, e]) (thn h1 fun xv s1 hx => thn hx fun itv s2 h2' => ?_)
  obtain ⟨fp, H2, I2, f2, kk⟩ := h2'
  refine hnew _ s2 (newEnv_comp ?_)
  have hDn : H2 s2.heap.objs.size = none := I2.hok.fresh (Nat.le_refl _)
  have I3 : Inv X pins σ (upd H2 s2.heap.objs.size (o0 s2.heap.objs.size)) { s2 with heap := s2.heap.push ob0 } :=
    I2.laid (t' := s2.toks) (fun b o e => Heap.get?_push_of_some _ e) (Nat.le_refl _) (hob _ s2.heap I2.big)
  have f3 : ∀ b ∈ fp, FpOk X pins (upd H2 s2.heap.objs.size (o0 s2.heap.objs.size)) b ∧ b < (s2.heap.push ob0).objs.size := fun b hb => by
    obtain ⟨q, lt⟩ := f2 b hb
    refine ⟨⟨?_, q.2⟩, by rw [Heap.size_push]; exact Nat.lt_succ_of_lt lt⟩
    rw [upd_ne (Nat.ne_of_lt lt)]
    exact q.1
  have I4 := block_start (s := { s2 with heap := s2.heap.push ob0 }) I3 ok hN f3
  have go := h2 itv fp H2 s2 { s2 with heap := s2.heap.push ob0 } { s2 with heap := pushCells ((s2.heap.push ob0).push { cls := .type "dict", data := .dict #[] }) scope.names } (cellsFrom ((s2.heap.push ob0).objs.size + 1) scope.names (cloFrom X.env.cells scope.names [])) s2.heap.objs.size (s2.heap.push ob0).objs.size kk hDn rfl rfl rfl
    (fun b o e => pushCells_keeps _ _ _ _ (Heap.get?_push_of_some _ (Heap.get?_push_of_some _ e))) (fun b hb => (f3 b hb).1) I4
  refine codeAny_mono go fun r s6 q => ?_
  obtain ⟨f, rfl, σ', H', I6, qq⟩ := q
  have I7 : Inv X pins σ H' s6 := I3.call' (ch := fp) I6.os I6.base I6.hok I6.bare fun b hb => by
    obtain ⟨_, q1, _, q3, q4, q5⟩ := (f3 b hb).1
    exact ⟨q3, q1, q4, q5⟩
  have nC : H' (s2.heap.push ob0).objs.size = none := I6.free
  obtain ⟨m, hn, _⟩ := I6.loc
  have fin := hRR s2.heap.objs.size (s2.heap.push ob0).objs.size s6 m H' I7 qq hn (I3.fpOk (Nat.le_refl _) nC)
  cases use with
  | none => exact fin
  | some u => exact fin
theorem blk_core {ex tg iter : Expr} {ifs : List Expr} {rest : List Comprehension} {scope : Scope} {own : List (Str × Nat)} {pos' : Pos} {newAcc : Sem Value} {use : Option (Value → Sem Unit)} {Qf : Value → Shared → Prop}
    (hN : X.N.Nodup) (I : Inv X pins σ H s) (ok : BlkOk X.N X.env.scope scope own) (hcl : clausesOf ex = ⟨tg, iter, ifs, 0⟩ :: rest) (hs : ∀ x, foldedSetIterable iter X.env x = pure x)
    (K : Value → List Addr → Hp → Shared → Prop) (o0 : HO) (ob0 : Obj)
    (h1 : wpAny (model X.prog X.w) X.A (eval iter X.env) (fun v s1 => wpAny (model X.prog X.w) X.A (pyIter v) (fun it s2 => ∃ fp H2, Inv X pins σ H2 s2 ∧ (∀ b ∈ fp, FpOk X pins H2 b ∧ b < s2.heap.objs.size) ∧ K it fp H2 s2) X.xe s1) X.xe s)
    (hnew : ∀ (Q' : Value → Shared → Prop) (s2 : Shared), Q' (.ref s2.heap.objs.size) { s2 with heap := s2.heap.push ob0 } → wpAny (model X.prog X.w) X.A newAcc Q' X.xe s2)
    (hob : ∀ (H' : Hp) (h : Heap), sysModules < h.objs.size → ObjOk X.prog X.w H' (h.push ob0) h.objs.size o0)
    (h2 : ∀ (it : Value) (fp : List Addr) (H2 : Hp) (s2 s3 s4 : Shared) (cl : List (Str × Addr)) (D C : Addr), K it fp H2 s2 → H2 D = none → s2.heap.objs.size = D → s3.os = s2.os → s4.gens = s2.gens → (∀ b o, s2.heap.get? b = some o → s4.heap.get? b = some o) → (∀ b ∈ fp, FpOk X pins (upd H2 D o0) b) →
      Inv (blkOf X s3 (upd H2 D o0) scope fp cl C) [] (wipe σ (own.map (·.2))) (upd H2 D o0) s4 →
      codeAny (model X.prog X.w) X.A (.compStart ex 0 it (.ref D) (compEnvC scope cl C X.env)) (fun r s' => ∃ f, r = .ok f ∧ ∃ σ' H', Inv (blkOf X s3 (upd H2 D o0) scope fp cl C) [] σ' H' s' ∧ Q (.ref D) H') s4)
    (hRR : ∀ D C s' m H', Inv X pins σ H' s' → Q (.ref D) H' → s'.heap.Ns C m → FpOk X pins H' C → compPost (model X.prog X.w) X.A X.xe use Qf (.ref D) C (.ok .next) s') :
    wpAny (model X.prog X.w) X.A (comprehension ex scope X.env pos' newAcc false (eval iter X.env) use) Qf X.xe s :=
  blk_coreA hN I ok hcl hs K (fun _ => o0) ob0 h1 hnew hob h2 hRR
/-- behind it, as a value -/
theorem blk_val {D C : Addr} {s' : Shared} {m : Str → Option Value} {H' : Hp} (I' : Inv X pins σ H' s') (q : Q (.ref D) H') (hn : s'.heap.Ns C m) (f : FpOk X pins H' C) : compPost (model X.prog X.w) X.A X.xe none (EP X pins σ Q) (.ref D) C (.ok .next) s' := by
  refine ⟨m, hn, fun h2 sb => ⟨.ref D, H', ?_, rfl, q⟩⟩
  obtain ⟨f0, f1, f2, f3, f4, f5⟩ := f
  exact I'.turned (t' := s'.toks) (fun b o hb e => (sb.2 b hb).trans e) f0 f1 f3 f4 f5
/-- .. as what a local name is set to -/
theorem blk_set {i : Nat} {y : Str} {py : Pos} {Dn : Ends} {L C : Addr} {s' : Shared} {m : Str → Option Value} {H' : Hp} (hN : X.N.Nodup) (hy : X.N[i]? = some y) (hyl : X.env.scope.names.lookup y = some .local)
    (I' : Inv X pins σ H' s') (q : Dn.nx (σ.set i (some (.ref L))) H') (hn : s'.heap.Ns C m) (f : FpOk X pins H' C) :
    compPost (model X.prog X.w) X.A X.xe (some (assign (.Name y py) X.env)) (fun _ s2 => SP X pins Dn .next s2) (.ref L) C (.ok .next) s' := by
  show wpAny _ _ (assign (.Name y py) X.env (.ref L)) _ _ _
  refine wpAny_assign_Name (store_ok2 (v := V.ref L) I' hN hy (.inl hyl) rfl (fun s2 I2 hw => ?_) (.inr hyl))
  obtain ⟨a, sb, ha⟩ := hw
  obtain ⟨f0, f1, f2, f3, f4, f5⟩ := f
  have haC : C ≠ a := by
    rcases ha with z | z
    · exact fun e => f1 (e.trans z)
    · exact fun e => f4 y a z e.symm
  refine ⟨m, hn.sameBut sb haC, fun h3 sb3 => ?_⟩
  exact ⟨_, H', I2.turned (t' := s2.toks) (fun b o hb e => (sb3.2 b hb).trans e) f0 f1 f3 f4 f5, q⟩
/-- what stands of a walked iterator's objects within the block -/
theorem blk_fp {s3 s' : Shared} {H3 H' : Hp} {scope : Scope} {fp : List Addr} {cl : List (Str × Addr)} {C : Addr} {σ' : L2.St} (I' : Inv (blkOf X s3 H3 scope fp cl C) [] σ' H' s') (hn : ∀ b ∈ fp, H' b = none) : ∀ b ∈ fp, FpOk (blkOf X s3 H3 scope fp cl C) [] H' b := fun b hb => by
  have q := I'.ok.exf b hb
  exact ⟨hn b hb, q.1, I'.ok.exfs b hb, .inl hb, fun x c e => q.2 x c e, fun p hp => absurd (show p ∈ ([] : List (Addr × Obj)) ++ [] from hp) (by simp)⟩
end

/-! ### dict comprehensions, the keys tuples -/
theorem set_tupKey {X : Cx} {pins : List (Addr × Obj)} {σ : L2.St} {H : Hp} {s : Shared} {E : Value → Shared → Prop} {D b : Addr} {kvs : List (List Key × V)} {k : List Key} {v : V} {u r : Value} {Q : Unit → Shared → Prop} (hu : X.A.units + 1 < cLine) (I : Inv X pins σ H s) (hD : H D = some (.dT kvs))
    (hz : kvs.length < sizeLine) (hb : H b = some (.tup (k.map kV))) (ry : u = .ref b) (rv : RelV v r) (h : ∀ s', Inv X pins σ (upd H D (.dT (putK kvs k v))) s' → Q () s') : wpAny (model X.prog X.w) X.A (dictSet D u r) Q E s := by
  subst ry
  obtain ⟨z, hd, xs, rel, dd⟩ := dt_of I.hok hD
  have hzx : xs.length ≤ sizeLine := by rw [← Paired.length rel]; exact z
  have hl : (putK kvs k v).length ≤ sizeLine := by have := length_putK kvs k v; omega
  refine wpAny_dictSet_heap (hsz := hzx) (show X.A.units < cLine by omega) (key_of I.hok hb) dd fun h' dd' hs => h _ ?_
  obtain ⟨q, es, ep, hq, q2, q3, q4, _, q5⟩ := dd'
  refine d_write I (by rw [hD]; exact True.intro) hs ⟨q, hq⟩ ⟨hl, hd, _, (rel.put k hb rv).keeps fun c ys ec => ?_, q, es, ep, hq, q2, q3, q4, q5⟩
  rw [upd_ne (ne_of ec hD fun z => nomatch z)]
  exact ec
section
variable {X : Cx}
def tDcT (wi : TI) (g : TG) (tt : TT) (tk tv : TE) (vs : List Nat) : TE := fun σ H Q => wi σ H fun J H1 => ∀ D, H1 D = none → ∃ W : Nat → Nat → Hp → Prop, (∃ m, W 0 m (upd H1 D (.dT []))) ∧ ∀ i m H, W i m H →
  (J.stop i H ∧ Q (.ref D) H) ∨ (J.go i H ∧ ∃ Nx : Hp → Prop, (∀ H', Nx H' → ∃ m', m' < m ∧ W (i + 1) m' H') ∧ ∀ x H', J.yld i H x H' → g x (wipe σ vs) H' fun σ2 H2 => wipe σ2 vs = wipe σ vs ∧ tt σ2 H2 fun b H3 =>
    if b = true then tk σ2 H3 fun y H4 => tv σ2 H4 fun z H5 => ∃ kvs k b, y = .ref b ∧ H5 b = some (.tup (List.map kV k)) ∧ H5 D = some (.dT kvs) ∧ kvs.length < sizeLine ∧ Nx (upd H5 D (.dT (putK kvs k z))) else Nx H3)
theorem dcT_core {pins : List (Addr × Obj)} {s : Shared} {σ : L2.St} {H : Hp} {Q : VK} {kx vx tg iter : Expr} {ifs : List Expr} {scope : Scope} {own : List (Str × Nat)} {pos pos' : Pos} {wi : TI} {g : TG} {tt : TT} {tk tv : TE} {use : Option (Value → Sem Unit)} {Qf : Value → Shared → Prop}
    (hu : X.A.units + 1 < cLine) (hc : X.calm = true) (hN : X.N.Nodup) (I : Inv X pins σ H s) (hi : PI X tg iter wi) (ok : BlkOk X.N X.env.scope scope own)
    (B : ∀ (s : Shared) (H : Hp) (fp : List Addr) (cl : List (Str × Addr)) (C : Addr), PG (blkOf X s H scope fp cl C) tg g ∧ PTs (blkOf X s H scope fp cl C) ifs tt ∧ PE (blkOf X s H scope fp cl C) kx tk ∧ PE (blkOf X s H scope fp cl C) vx tv) (hs : ∀ x, foldedSetIterable iter X.env x = pure x)
    (h : tDcT wi g tt tk tv (own.map (·.2)) σ H Q)
    (hRR : ∀ D C s' m H', Inv X pins σ H' s' → Q (.ref D) H' → s'.heap.Ns C m → FpOk X pins H' C → compPost (model X.prog X.w) X.A X.xe use Qf (.ref D) C (.ok .next) s') :
    wpAny (model X.prog X.w) X.A (comprehension (.DictComp kx vx [⟨tg, iter, ifs, 0⟩] scope pos) scope X.env pos' newDict false (eval iter X.env) use) Qf X.xe s := by
  refine blk_core (own := own) hN I ok rfl hs (fun itv fp H2 s2 => ∃ it tn J, itv = .ref it ∧ Turn X.prog X.w X.K tg J fp it tn ∧ tn 0 s2.heap ∧ ∀ D, H2 D = none → ∃ W : Nat → Nat → Hp → Prop, (∃ m, W 0 m (upd H2 D (.dT []))) ∧ ∀ i m H, W i m H →
    (J.stop i H ∧ Q (.ref D) H) ∨ (J.go i H ∧ ∃ Nx : Hp → Prop, (∀ H', Nx H' → ∃ m', m' < m ∧ W (i + 1) m' H') ∧ ∀ x H', J.yld i H x H' → g x (wipe σ (own.map (·.2))) H' fun σ2 H2 => wipe σ2 (own.map (·.2)) = wipe σ (own.map (·.2)) ∧ tt σ2 H2 fun b H3 =>
      if b = true then tk σ2 H3 fun y H4 => tv σ2 H4 fun z H5 => ∃ kvs k b, y = .ref b ∧ H5 b = some (.tup (List.map kV k)) ∧ H5 D = some (.dT kvs) ∧ kvs.length < sizeLine ∧ Nx (upd H5 D (.dT (putK kvs k z))) else Nx H3))
    (.dT []) { cls := .type "dict", data := .dict #[] } ?_ (fun Q' s2 q => wpAny_newObj_type q) (fun H' h hb => dt_empty h hb) ?_ hRR
  · refine thn (hi.run pins s σ H _ I h) fun v s1 q => thn q fun itv s2 q => ?_
    obtain ⟨it, fp, tn, J, H2, e, I2, T, st, f, q⟩ := q
    refine ⟨fp, H2, I2, fun b hb => ⟨f b hb, ?_⟩, it, tn, J, e, T, st, q⟩
    obtain ⟨o, e, _⟩ := T.obj _ _ st b hb
    exact Heap.lt_size e
  · intro itv fp H2 s2 s3 s4 cl D C kk hDn hDs ho3 hg hkp hfp I4
    obtain ⟨it, tn, J, rfl, T, st2, q⟩ := kk
    obtain ⟨W, ⟨m0, w0⟩, turn⟩ := q D hDn
    obtain ⟨pg, pt, pk, pv⟩ := B s3 (upd H2 D (.dT [])) fp cl C
    have st4 : tn 0 s4.heap := T.keep _ _ _ st2 fun b _ o e => hkp b o e
    have loop : codeAny (model X.prog X.w) X.A (.compLoop (.DictComp kx vx [⟨tg, iter, ifs, 0⟩] scope pos) 0 (.ref it) (.ref D) (compEnvC scope cl C X.env)) (fun r s' => ∃ f, r = .ok f ∧ ∃ σ' H', Inv (blkOf X s3 (upd H2 D (.dT [])) scope fp cl C) [] σ' H' s' ∧ Q (.ref D) H') s4 := by
      refine compLoop_anyD (fun n s' => ∃ i H', Inv (blkOf X s3 (upd H2 D (.dT [])) scope fp cl C) [] (wipe σ (own.map (·.2))) H' s' ∧ tn i s'.heap ∧ (∀ b ∈ fp, H' b = none) ∧ W i n H') ?_ m0 ⟨0, _, I4, st4, fun b hb => (hfp b hb).1, w0⟩
      rintro n s5 ⟨i, H5, I5, st5, n5, w5⟩
      rcases turn i n H5 w5 with ⟨stop, qq⟩ | ⟨gg, Nx, hNx, step⟩
      · refine thnF (T.done (blkOf X s3 (upd H2 D (.dT [])) scope fp cl C) rfl rfl rfl hc i [] s5 _ H5 (fun _ _ => False) I5 (blk_fp I5 n5) st5 stop) fun r s6 q => ?_
        obtain ⟨rfl, I6⟩ := q
        exact ⟨.next, rfl, _, H5, I6, qq⟩
      · refine thnF (T.item (blkOf X s3 (upd H2 D (.dT [])) scope fp cl C) rfl rfl rfl hc i [] s5 _ H5 (fun _ _ => False) I5 (blk_fp I5 n5) st5 gg) fun r s6 q => ?_
        obtain ⟨u, rfl, q⟩ := q
        refine thnF q fun _ s7 q => ?_
        obtain ⟨x, H7, I7, r7, y7, st7, n7⟩ := q
        have I7p := I7.pinned (blk_fp I7 n7) (T.obj _ _ st7)
        refine thnF (pg.run _ s7 _ H7 x u _ I7p r7 (step x H7 y7)) fun _ s8 q => ?_
        obtain ⟨σ8, H8, I8, hw8, q8⟩ := q
        refine thnF (pt.run _ s8 σ8 H8 _ I8 q8) fun b s9 q => ?_
        obtain ⟨H9, I9, q9⟩ := q
        have fin : ∀ {s' : Shared} {H' : Hp}, Inv (blkOf X s3 (upd H2 D (.dT [])) scope fp cl C) ([] ++ pinsAt fp s7.heap) σ8 H' s' → Nx H' → ∃ m, m < n ∧ ∃ i H', Inv (blkOf X s3 (upd H2 D (.dT [])) scope fp cl C) [] (wipe σ (own.map (·.2))) H' s' ∧ tn i s'.heap ∧ (∀ b ∈ fp, H' b = none) ∧ W i m H' := by
          intro s' H' I' nx
          obtain ⟨m', hm, w'⟩ := hNx H' nx
          have pin' : ∀ b ∈ fp, ∀ o, s7.heap.get? b = some o → s'.heap.get? b = some o ∧ H' b = none := by
            intro b hb o e
            have z := I'.pin (b, o) (List.mem_append_right _ (List.mem_append_right _ (mem_pinsAt hb e)))
            exact ⟨z.1, z.2.1⟩
          have hl : (wipe σ (own.map (·.2))).length = σ8.length := by
            rw [← hw8]
            exact wipe_length _ _
          refine ⟨m', hm, i + 1, H', (I'.unpinned (pins := [])).weak hl ?_, T.keep _ _ _ st7 fun b hb o e => (pin' b hb o e).1, ?_, w'⟩
          · intro j v e
            rw [← hw8] at e
            exact (wipe_some e).1
          · intro b hb
            obtain ⟨o, e, _⟩ := T.obj _ _ st7 b hb
            exact (pin' b hb o e).2
        cases b with
        | false => exact fin I9 q9
        | true =>
          refine thnF (pk.run _ s9 σ8 H9 _ I9 q9) fun z s10 q => ?_
          obtain ⟨yk, H10, I10, r10, q10⟩ := q
          refine thnF (pv.run _ s10 σ8 H10 _ I10 q10) fun z2 s11 q => ?_
          obtain ⟨yv, H11, I11, r11, kvs, k, kb, ek, hkb, hD11, hz11, nx⟩ := q
          subst ek
          exact set_tupKey (X := blkOf X s3 (upd H2 D (.dT [])) scope fp cl C) hu I11 hD11 hz11 hkb r10 r11 fun s12 I12 => fin I12 nx
    exact codeAny_compStart_dict loop (T.self X.A 0 _ _ _ st4 loop)
theorem pe_dcT {kx vx tg iter : Expr} {ifs : List Expr} {scope : Scope} {own : List (Str × Nat)} {pos : Pos} {wi : TI} {g : TG} {tt : TT} {tk tv : TE} (hu : X.A.units + 1 < cLine) (hc : X.calm = true) (hN : X.N.Nodup) (hi : PI X tg iter wi) (ok : BlkOk X.N X.env.scope scope own)
    (B : ∀ (s : Shared) (H : Hp) (fp : List Addr) (cl : List (Str × Addr)) (C : Addr), PG (blkOf X s H scope fp cl C) tg g ∧ PTs (blkOf X s H scope fp cl C) ifs tt ∧ PE (blkOf X s H scope fp cl C) kx tk ∧ PE (blkOf X s H scope fp cl C) vx tv) (hs : ∀ x, foldedSetIterable iter X.env x = pure x := by intro _; rfl) :
    PE X (.DictComp kx vx [⟨tg, iter, ifs, 0⟩] scope pos) (tDcT wi g tt tk tv (own.map (·.2))) := by
  refine ⟨fun pins s σ H Q I h => ?_⟩
  rw [arm_eval_DictComp]
  exact dcT_core hu hc hN I hi ok B hs h fun D C s' m H' I' q hn f => blk_val I' q hn f
end
end Hd
set_option maxHeartbeats 4000000
/-! Dicts with tuple keys: truth, a display of one pair, items walked; what is never written again stands locked. -/
namespace Hd
open PySem PySem.Spec PyProof.Rows L2
section
variable {prog : Program} {w : World} {A : Around} {E : Value → Shared → Prop} {s : Shared}
theorem truthy_dT {κ : Type} [DecidableEq κ] {knd : HeapKind prog w κ} {d : Addr} {xs : List (κ × Addr × Value)} {Q : Bool → Shared → Prop} (hd : (d == sysModules) = false) (hm : s.heap.DictOfH knd d xs) (hfit : (xs.length : Int) < 2 ^ 63)
    (h : Q (!xs.isEmpty) { s with toks := s.toks + 1 + 1 }) : wpAny (model prog w) A (truthy (.ref d)) Q E s := by
  have hne : ((xs.length : Int) != 0) = !xs.isEmpty := by
    cases xs with
    | nil => rfl
    | cons a l =>
      simp only [List.length_cons, List.isEmpty_cons, Bool.not_false, bne_iff_ne, ne_eq]
      omega
  have key : wpAny (model prog w) A (runValue (.builtin "len" ⟨[.ref d], []⟩)) (fun r s' => r = .int xs.length (s.toks + 1) ∧ Q (!xs.isEmpty) s') E s := by
    refine wpAny_runValue (codeAny_builtin entry_len ?_)
    rw [Around.under_plainId plain_len _]
    refine wpAny_mono (wpAny_len_body_dictH (Q := fun r s' => r = .int xs.length (s.toks + 1) ∧ Q (!xs.isEmpty) s') hd hm hfit ⟨rfl, h⟩) (fun fin s' q => ?_) fun _ _ e => e
    obtain ⟨r, rfl, q⟩ := q
    exact q
  unfold truthy
  refine wpAny_bind (wpAny_callSpecial?_none (name := Str.ofString "__bool__") hm.typeIs noBool_dict ?_)
  refine wpAny_bind (wpAny_specialOf (name := Str.ofString "__len__") hm.typeIs F.slot_dict_len.lookup ?_)
  refine wpAny_bind (wpAny_mono key (fun r s' q => ?_) fun _ _ e => e)
  obtain ⟨rfl, q⟩ := q
  exact wpAny_pure (hne ▸ q)
end
section
variable {X : Cx}
def tTruT (te : TE) : TT := fun σ H Q => te σ H fun x H1 => ∃ a kvs, x = .ref a ∧ Rd H1 a (.dT kvs) ∧ Q (!kvs.isEmpty) H1
theorem pt_truT {e : Expr} {te : TE} (h : PE X e te) (he : ∀ whole, isTrue e X.env whole = (do let v ← whole; standAt e.pos; holding [v] (truthy v)) := by intro _; rfl) : PT X e (tTruT te) := by
  refine ⟨fun pins s σ H Q I hw => ?_⟩
  refine isTrue_plain (thn (h.run pins s σ H _ I hw) fun v s1 q => ?_) (he _)
  obtain ⟨x, H1, I1, r1, a, kvs, rfl, hr, q⟩ := q
  obtain rfl : v = .ref a := r1
  obtain ⟨z, hd, xs, rel, dd⟩ := dt_rd I1.hok hr
  have hl : kvs.length = xs.length := Paired.length rel
  refine truthy_dT hd dd (by rw [← hl]; rw [sizeLine_eq] at z; omega) ?_
  have e1 : kvs.isEmpty = xs.isEmpty := by
    cases kvs <;> cases xs <;> first | rfl | (simp at hl)
  rw [← e1]
  exact ⟨H1, I1.tok _, q⟩
/-- what is never written again stands locked from here on -/
def tFrz (t : TS) : TS := fun D σ H => t { D with nx := fun σ' H' => ∃ d u, H' d = some u ∧ Mut (some u) ∧ ∀ od, D.nx σ' (upd H' d (.frz od u)) } σ H
theorem ps_frz {st : Stmt} {t : TS} (h : PS X st t) : PS X st (tFrz t) := by
  refine ⟨fun pins s σ H D I hw => ?_⟩
  refine thn (h.run pins s σ H _ I hw) fun f s1 q => ?_
  cases f with
  | next =>
    obtain ⟨σ', H', I', d, u, hd, mu, q⟩ := q
    obtain ⟨od, I2⟩ := I'.lock hd mu
    exact ⟨σ', _, I2, q od⟩
  | brk => exact q
  | cont => exact q
  | ret v => exact q
def tFrzE (t : TE) : TE := fun σ H Q => t σ H fun x H' => ∃ d u, H' d = some u ∧ Mut (some u) ∧ ∀ od, Q x (upd H' d (.frz od u))
theorem pe_frz {e : Expr} {t : TE} (h : PE X e t) : PE X e (tFrzE t) := by
  refine ⟨fun pins s σ H Q I hw => ?_⟩
  refine thn (h.run pins s σ H _ I hw) fun v s1 q => ?_
  obtain ⟨x, H', I', r, d, u, hd, mu, q⟩ := q
  obtain ⟨od, I2⟩ := I'.lock hd mu
  exact ⟨x, _, I2, r, q od⟩
/-- {k: v}, the key a tuple -/
def tDisp1 (tk tv : TE) : TE := fun σ H Q => ∀ p, H p = none → tk σ (upd H p (.dT [])) fun x H1 => tv σ H1 fun y H2 => ∃ b k, x = .ref b ∧ H2 b = some (.tup (List.map kV k)) ∧ H2 p = some (.dT []) ∧ Q (.ref p) (upd H2 p (.dT [(k, y)]))
theorem pe_disp1 {k v : Expr} {pos : Pos} {tk tv : TE} (hu : X.A.units < cLine) (hk : PE X k tk) (hv : PE X v tv) : PE X (.Dict [some k] [v] pos) (tDisp1 tk tv) := by
  refine ⟨fun pins s σ H Q I h => ?_⟩
  have hn := I.hok.fresh (Nat.le_refl s.heap.objs.size)
  have I1 := I.laid (a := s.heap.objs.size) (o := .dT []) (h' := s.heap.push { cls := .type "dict", data := .dict #[] }) (t' := s.toks) (fun _ _ q => Heap.get?_push_of_some _ q) (Nat.le_refl _) (dt_empty s.heap I.big)
  have hh := h _ hn
  have shape : (evalEachOpt [some k] X.env).zip ((evalEach [v] X.env).map fun v => do let x ← v; standAt pos; pure x) = (pairTrees [some k] [v] X.env pos).map fun p => (some p.1, p.2) := zip_pairTrees [some k] [v] X.env pos rfl rfl
  rw [arm_eval_Dict, shape, dictDisplay_pairs (pairTrees [some k] [v] X.env pos) (by simp [pairTrees]) (by show (1 : Nat) < 17; omega)]
  refine wpAny_bind (wpAny_standAt (wpAny_bind (wpAny_subDictH (knd := tupleKind (mixKind X.prog X.w)) hu (by show (1 : Nat) ≤ 15; omega) ?_)))
  refine pairTrees_cons_walk (thn (hk.run pins _ σ _ _ I1 hh) fun u s1 q => ?_)
  obtain ⟨x, H1, I2, rx, q⟩ := q
  refine thn (hv.run pins s1 σ H1 _ I2 q) fun u2 s2 q => ?_
  obtain ⟨y, H2, I3, ry, b, kk, rfl, hb, hp, q⟩ := q
  refine pairTrees_nil_walk ?_
  obtain rfl : u = .ref b := rx
  obtain ⟨z, hd, xs, rel, dd⟩ := dt_of I3.hok hp
  cases rel
  refine ⟨[(kk, b, u2)], ⟨rfl, rfl, key_of I3.hok hb, True.intro⟩, dd, fun h' tk dd' hs => wpAny_pure ?_⟩
  have dd2 : h'.DictOfH (tupleKind (mixKind X.prog X.w)) s.heap.objs.size [(kk, b, u2)] := dd'
  obtain ⟨o, es, ep, ho, q2, q3, q4, _, q5⟩ := dd2
  have w := d_write (h' := h') (t' := tk) (ob := .dT [(kk, y)]) I3 (by rw [hp]; exact True.intro) hs ⟨o, ho⟩ ⟨by show 1 ≤ sizeLine; decide, hd, [(kk, b, u2)], .cons ⟨rfl, ?_, ry⟩ .nil, o, es, ep, ho, q2, q3, q4, q5⟩
  · exact ⟨.ref s.heap.objs.size, _, w, rfl, q⟩
  · rw [upd_ne (ne_of hb hp fun z => nomatch z)]
    exact hb
end

/-! ### d.items() -/
/-- the pairs of the locked dict, each a new tuple of the key's own tuple and the value -/
def Itit (d : Addr) (o : Obj) (kvs : List (List Key × V)) : It :=
  ⟨fun i H => H d = some (.frz o (.dT kvs)) ∧ i < kvs.length, fun i H x H' => ∃ T k v q, kvs[i]? = some (k, v) ∧ x = .ref T ∧ H T = none ∧ H q = some (.tup (List.map kV k)) ∧ H' = upd H T (.tup [.ref q, v]), fun i H => H d = some (.frz o (.dT kvs)) ∧ kvs.length ≤ i⟩
theorem frzT_raw {X : Cx} {pins : List (Addr × Obj)} {σ : L2.St} {H : Hp} {s : Shared} {d : Addr} {o : Obj} {kvs : List (List Key × V)} (I : Inv X pins σ H s) (h : H d = some (.frz o (.dT kvs))) :
    (d == sysModules) = false ∧ ∃ es ep, s.heap.DictRaw d es ep ∧ o.data = .dict es ep ∧ es.size = kvs.length ∧ ∀ i k v (hi : i < es.size), kvs[i]? = some (k, v) → ∃ q, es[i].key = .ref q ∧ H q = some (.tup (List.map kV k)) ∧ RelV v es[i].val := by
  obtain ⟨hd, z, hs, xs, pr, o', es, ep, ho, hx, hdt, he, _⟩ := I.hok d _ h
  rw [hd] at ho
  cases ho
  have l1 : es.size = xs.length := size_of_entries he
  have l2 : kvs.length = xs.length := Paired.length pr
  refine ⟨hs, es, ep, ⟨o, hd, hx, hdt⟩, hdt, by omega, fun i k v hi e => ?_⟩
  obtain ⟨b, hb, e1, e2, e3⟩ := paired_get pr e
  have q := entry_at he i
  rw [hb] at q
  rw [Array.getElem?_eq_getElem hi] at q
  have q' : es[i] = _ := Option.some.inj q
  rw [q']
  exact ⟨b.2.1, rfl, e2, e3⟩
theorem turn_itemsT {P : Program} {w : World} {K : PySem.W.Frag} {d : Addr} {o : Obj} {es : Array DictEntry} {ep : Nat} {kvs : List (List Key × V)} {elts : List Expr} {kk : Nat} {tpos : Pos} (it : Addr) (hod : o.data = .dict es ep) (hsz0 : es.size = kvs.length) :
    Turn P w K (.Tuple elts kk tpos) (Itit d o kvs) [it] it (fun i h => ∃ ok ov, IsItemIter h it d i es.size ep ok ov) where
  mem := List.mem_singleton.mpr rfl
  obj := fun i h st b hb => by
    have e : b = it := List.mem_singleton.mp hb
    subst e
    obtain ⟨ok, ov, e⟩ := st
    exact ⟨_, e, fun v z => nomatch z⟩
  keep := fun i h h' st k => by
    obtain ⟨ok, ov, e⟩ := st
    exact ⟨ok, ov, k it (List.mem_singleton.mpr rfl) _ e⟩
  item := by
    intro X hP hw hK hc i pins s σ H E I hf st hg
    subst hP hw hK
    obtain ⟨hd, hi⟩ := hg
    obtain ⟨hs, es', ep', hm, hdt, hsz, ent⟩ := frzT_raw I hd
    obtain ⟨rfl, rfl⟩ := dict_ep hod hdt
    obtain ⟨⟨k, v⟩, hkv⟩ : ∃ p, kvs[i]? = some p := ⟨kvs[i], List.getElem?_eq_getElem hi⟩
    have hie : i < es'.size := by omega
    obtain ⟨q, hq1, hq2, hq3⟩ := ent i k v hie hkv
    obtain ⟨ok, ov, he⟩ := st
    have hlt : it < s.heap.objs.size := Heap.lt_size he
    refine wpAny_pyNext_items_item_raw he hm hie fun h' ho hT hz hk => ?_
    refine ⟨_, rfl, wpAny_letOwnedTupleGo_items (s := { s with heap := h' }) ho fun h'' he' sb => ?_⟩
    have hT2 := (sb.2 s.heap.objs.size (Nat.ne_of_gt hlt)).trans hT
    rw [hq1] at hT2
    have new : ObjOk X.prog X.w (upd H s.heap.objs.size (.tup [.ref q, v])) h'' s.heap.objs.size (.tup [.ref q, v]) :=
      ⟨by show 2 ≤ sizeLine; decide, [.ref q, es'[i].val], .cons rfl (.cons hq3 .nil), ⟨_, hT2, rfl, _, rfl⟩⟩
    have I1 : Inv X pins σ (upd H s.heap.objs.size (.tup [.ref q, v])) { s with heap := h'' } := by
      refine I.turnedNew (t' := s.toks) (ch := [it]) (fun b ob hb e => ?_) hf (Nat.le_refl _) new
      have nb : b ≠ it := fun z => hb (List.mem_singleton.mpr z)
      exact (sb.2 b nb).trans (hk b ob nb e)
    refine ⟨.ref s.heap.objs.size, _, I1, rfl, ⟨_, k, v, q, hkv, rfl, I.hok.fresh (Nat.le_refl _), hq2, rfl⟩, ⟨_, _, he'⟩, fun b hb => ?_⟩
    have e : b = it := List.mem_singleton.mp hb
    rw [e, upd_ne (Nat.ne_of_lt hlt)]
    exact (hf it (List.mem_singleton.mpr rfl)).1
  done := by
    intro X hP hw hK hc i pins s σ H E I hf st hg
    subst hP hw hK
    obtain ⟨hd, hi⟩ := hg
    obtain ⟨f0, f1, f2, f3, f4, f5⟩ := hf it (List.mem_singleton.mpr rfl)
    obtain ⟨hs, es', ep', hm, hdt, hsz, ent⟩ := frzT_raw I hd
    obtain ⟨rfl, rfl⟩ := dict_ep hod hdt
    obtain ⟨ok, ov, he⟩ := st
    refine wpAny_pyNext_items_end_raw (I.ok.hd hc) he hm (by omega) fun h' eb => ⟨rfl, ?_⟩
    exact I.turned (t' := s.toks) (fun b ob hb e => eb b ob hb e) f0 f1 f3 f4 f5
  self := fun A i s Q E st h => by
    obtain ⟨_, _, e⟩ := st
    exact PySem.W.kcp_self e h
def iItemsT (td : TE) : TI := fun σ H R => td σ H fun x H1 => ∃ d o kvs, x = .ref d ∧ H1 d = some (.frz o (.dT kvs)) ∧ R (Itit d o kvs) H1
theorem pi_itemsT {X : Cx} {e : Expr} {td : TE} {apos cpos : Pos} {elts : List Expr} {kk : Nat} {tpos : Pos} (he : PE X e td) (hbase : attributeBase e "items" X.env (eval e X.env) = eval e X.env := by rfl) (hline : (apos.endLine == cpos.line) = true := by rfl) :
    PI X (.Tuple elts kk tpos) (.Call (.Attribute e "items" apos) [] [] cpos) (iItemsT td) := by
  refine ⟨fun pins s σ H R I h => ?_⟩
  refine wpAny_Call_method (T := "dict") (id := "dict.items") hbase rfl hline F.plainAttrs_dict F.slot_dict_items F.type_dict_items (thn (he.run pins s σ H _ I h) fun u s1 q => ?_)
  obtain ⟨x, H1, I1, rx, d, o, kvs, rfl, hd, q⟩ := q
  obtain rfl : u = Value.ref d := rx
  obtain ⟨hs, es, ep, hm, hdt, hsz, ent⟩ := frzT_raw I1 hd
  obtain ⟨od, ho1, ho2, ho3⟩ := id hm
  refine ⟨hm.typeIs, ?_, ?_⟩
  · exact fun a e => by cases e; exact ⟨od, ho1, ho2.2.1⟩
  · have I2 : Inv X pins σ H1 { s1 with heap := s1.heap.push { cls := .type "dict_items", data := .fields #[.ref d] } } := I1.kept (t' := s1.toks) fun b ob q => Heap.get?_push_of_some _ q
    have fin : wpAny (model X.prog X.w) X.A (pyIter (.ref s1.heap.objs.size)) (PIE X pins σ (.Tuple elts kk tpos) R) X.xe { s1 with heap := s1.heap.push { cls := .type "dict_items", data := .fields #[.ref d] } } := by
      refine wpAny_pyIter_items_raw (d := d) ⟨_, Heap.get?_push_size _ rfl, rfl, rfl⟩ (hm.at fun o e => Heap.get?_push_of_some _ e) (pi_one (tk := s1.toks) I2 _ (turn_itemsT _ hdt hsz) ⟨.none, .none, ?_⟩ q)
      exact Heap.get?_push_size _ rfl
    show wpAny _ _ (callWith cpos (.builtin "dict.items") [.ref d] [] []) _ X.xe s1
    exact method_meetsIn F.slot_dict_items F.entry_dict_items rfl (PySem.evalArgs_none ⟨rfl, hm.typeIs, F.args_dict_items_1 _, _, meets_dict_items_raw d hs, ⟨⟨es, ep, hm⟩, fin⟩⟩)
end Hd
set_option maxHeartbeats 4000000
/-! [elt for x in g for y in x], g a generator. -/
namespace Hd
open PySem PySem.Spec PyProof.Rows L2
section
variable {X : Cx}
/-- x is walked within the turn; what is the consumer's own is the new list D -/
def tLcG (t : TGm) (g : TG) (wi1 : TI) (g1 : TG) (te : TE) (vs vs1 : List Nat) : TE := fun σ H Q => t σ H fun G n a H1 => ∀ D, H1 D = none → ∃ W : Nat → Hp → Prop, W 0 (upd H1 D (.lst [])) ∧
  (∀ i H, i < n → W i H → ∀ x Hw Hi H', NX H Hw → (G [D]).out i Hw x Hi → NX Hi H' → g x (wipe σ vs) H' fun σ2 H2 => wipe σ2 vs = wipe σ vs ∧ wi1 σ2 H2 fun J1 H4 => ∃ W1 : Nat → Nat → Hp → Prop, (∃ m, W1 0 m H4) ∧ ∀ j k H, W1 j k H →
    (J1.stop j H ∧ ButM [D] H' H ∧ MOk [D] H ∧ W (i + 1) H) ∨ (J1.go j H ∧ ∃ Nx1 : Hp → Prop, (∀ H', Nx1 H' → ∃ k', k' < k ∧ W1 (j + 1) k' H') ∧ ∀ x H', J1.yld j H x H' → g1 x (wipe σ2 vs1) H' fun σ3 H5 => wipe σ3 vs1 = wipe σ2 vs1 ∧
      te σ3 H5 fun y H7 => ∃ acc, H7 D = some (.lst acc) ∧ acc.length < sizeLine ∧ Nx1 (upd H7 D (.lst (acc ++ [y]))))) ∧
  ∀ H, W n H → ∀ Hw Hi H', NX H Hw → (G [D]).fin n Hw Hi → NX Hi H' → Q (.ref D) H'
theorem lcg_core {pins : List (Addr × Obj)} {s : Shared} {σ : L2.St} {H : Hp} {Q : VK} {k : Nat} {elt iter tg1 iter1 : Expr} {x0 : Str} {xp : Pos} {scope : Scope} {own : List (Str × Nat)} {vs1 : List Nat} {pos pos' : Pos} {t : TGm} {wi1 : TI} {g g1 : TG} {te : TE} {use : Option (Value → Sem Unit)} {Qf : Value → Shared → Prop}
    (hr : Room (k + 1) X.A) (hc : X.calm = true) (hN : X.N.Nodup) (I : Inv X pins σ H s) (hi : PGm X k iter t) (ok : BlkOk X.N X.env.scope scope own) (hv : ∀ i ∈ vs1, i ∈ own.map (·.2))
    (B : ∀ (s : Shared) (H : Hp) (fp : List Addr) (cl : List (Str × Addr)) (C : Addr), PG (blkOf X s H scope fp cl C) (.Name x0 xp) g ∧ PI (blkOf X s H scope fp cl C) tg1 iter1 wi1 ∧ PG (blkOf X s H scope fp cl C) tg1 g1 ∧ PE (blkOf X s H scope fp cl C) elt te)
    (hs : ∀ x, foldedSetIterable iter X.env x = pure x) (hs1 : ∀ env x, foldedSetIterable iter1 env x = pure x)
    (h : tLcG t g wi1 g1 te (own.map (·.2)) vs1 σ H Q)
    (hRR : ∀ D C s' m H', Inv X pins σ H' s' → Q (.ref D) H' → s'.heap.Ns C m → FpOk X pins H' C → compPost (model X.prog X.w) X.A X.xe use Qf (.ref D) C (.ok .next) s') :
    wpAny (model X.prog X.w) X.A (comprehension (.ListComp elt [⟨.Name x0 xp, iter, [], 0⟩, ⟨tg1, iter1, [], 0⟩] scope pos) scope X.env pos' (newList []) false (eval iter X.env) use) Qf X.xe s := by
  refine blk_core (own := own) hN I ok rfl hs (fun itv fp H2 s2 => fp = [] ∧ ∃ G n a gn go gs H0 s0, itv = .ref a ∧ s0.os = s2.os ∧ Made X.prog X.w X.K X.mg X.base k X.stack s0 H0 G n a gn go gs H2 s2 ∧ (∃ vs, go.data = .fields vs) ∧ go.cls = .type "generator" ∧ s2.heap.IsGen a gn ∧
      ∀ D, H2 D = none → ∃ W : Nat → Hp → Prop, W 0 (upd H2 D (.lst [])) ∧
      (∀ i H, i < n → W i H → ∀ x Hw Hi H', NX H Hw → (G [D]).out i Hw x Hi → NX Hi H' → g x (wipe σ (own.map (·.2))) H' fun σ2 H2 => wipe σ2 (own.map (·.2)) = wipe σ (own.map (·.2)) ∧ wi1 σ2 H2 fun J1 H4 => ∃ W1 : Nat → Nat → Hp → Prop, (∃ m, W1 0 m H4) ∧ ∀ j k H, W1 j k H →
        (J1.stop j H ∧ ButM [D] H' H ∧ MOk [D] H ∧ W (i + 1) H) ∨ (J1.go j H ∧ ∃ Nx1 : Hp → Prop, (∀ H', Nx1 H' → ∃ k', k' < k ∧ W1 (j + 1) k' H') ∧ ∀ x H', J1.yld j H x H' → g1 x (wipe σ2 vs1) H' fun σ3 H5 => wipe σ3 vs1 = wipe σ2 vs1 ∧
          te σ3 H5 fun y H7 => ∃ acc, H7 D = some (.lst acc) ∧ acc.length < sizeLine ∧ Nx1 (upd H7 D (.lst (acc ++ [y]))))) ∧
      ∀ H, W n H → ∀ Hw Hi H', NX H Hw → (G [D]).fin n Hw Hi → NX Hi H' → Q (.ref D) H')
    (.lst []) { cls := .type "list", data := .seq ([] : List Value).toArray } ?_ (fun Q' s2 q => wpAny_newObj_type q (by show 0 ≤ sizeLine; decide)) (fun H' h hb => ⟨Nat.zero_le _, [], 0, .nil, Heap.get?_push_size _ rfl⟩) ?_ hRR
  · refine thn (hi.run pins s σ H _ I h) fun v s1 q => ?_
    obtain ⟨G, n, a, gn, go, gs, H1, H0, s0, rfl, I1, os0, m, q⟩ := q
    have ig : s1.heap.IsGen a gn := m.isgen _ (extO_at I1.hok m.obj)
    refine wpAny_pyIter_gen ig ?_
    obtain ⟨o, nm, qn, ho, hcl, hd, _⟩ := id ig
    rw [extO_at I1.hok m.obj] at ho
    cases ho
    exact ⟨[], H1, I1, fun b z => by simp at z, rfl, G, n, a, gn, go, gs, H0, s0, rfl, os0, m, ⟨_, hd⟩, hcl, ig, q⟩
  · intro itv fp H2 s2 s3 s4 cl D C kk hDn hDs ho3 hg hkp hfp I4
    obtain ⟨rfl, G, n, a, gn, go, gs, H0, s0, rfl, os0, m, hgo1, hgo2, ig, q⟩ := kk
    obtain ⟨W, w0, turn, stop⟩ := q D hDn
    obtain ⟨pg, pi1, pg1, pe⟩ := B s3 (upd H2 D (.lst [])) [] cl C
    have os4 : s4.os = s0.os := (I4.os.trans ho3).trans os0.symm
    have z0 : Zz (blkOf X s3 (upd H2 D (.lst [])) scope [] cl C) X.A s0.os a gn go [D] (G [D]) n 0 (upd H2 D (.lst [])) s4 := by
      refine Zz.begin (X := blkOf X s3 (upd H2 D (.lst [])) scope [] cl C) m hgo1 hgo2 hr.in1 I.ok.frames hg (fun b o e => by rw [upd_ne (ne_of_none e hDn)]; exact e) fun b hb o e => ?_
      rw [List.mem_singleton.mp hb, hDn] at e
      cases e
    have hd : X.A.depth < recursionLimit := by have := hr.dp; omega
    have ig4 : s4.heap.IsGen a gn := ig.keeps hkp
    have loop : codeAny (model X.prog X.w) X.A (.compLoop (.ListComp elt [⟨.Name x0 xp, iter, [], 0⟩, ⟨tg1, iter1, [], 0⟩] scope pos) 0 (.ref a) (.ref D) (compEnvC scope cl C X.env))
        (fun r s' => ∃ f, r = .ok f ∧ ∃ σ' H', Inv (blkOf X s3 (upd H2 D (.lst [])) scope [] cl C) [] σ' H' s' ∧ Q (.ref D) H') s4 := by
      refine codeAny_loop rfl (fun r s' => ∃ i H', r + i = n ∧ Inv (blkOf X s3 (upd H2 D (.lst [])) scope [] cl C) [] (wipe σ (own.map (·.2))) H' s' ∧ Zz (blkOf X s3 (upd H2 D (.lst [])) scope [] cl C) X.A s0.os a gn go [D] (G [D]) n i H' s' ∧ MOk [D] H' ∧ W i H') ?_ n
        ⟨0, _, by omega, I4, z0, fun b hb => by rw [List.mem_singleton.mp hb]; exact ⟨.lst [], own_lst, upd_same⟩, w0⟩
      rintro r s5 ⟨i, H5, hri, I5, z5, m5, w5⟩
      have os5 : s5.os = s0.os := I5.os.trans (I4.os.symm.trans os4)
      show wpAny _ X.A ((compTurn (.ListComp elt [⟨.Name x0 xp, iter, [], 0⟩, ⟨tg1, iter1, [], 0⟩] scope pos) 0 (.ref a) (.ref D) (compEnvC scope cl C X.env)).onRaise (fun x => do noteFrame x (compEnvC scope cl C X.env); theTreesLotGoes x)) _ _ s5
      refine wpAny_noted ?_
      rw [compTurn2_out]
      refine wpAny_bind (wpAny_standAt (wpAny_bind ?_))
      by_cases hin : i < n
      · refine next_of_special (gen_item (X := blkOf X s3 (upd H2 D (.lst [])) scope [] cl C) hr.hd I5.ok.frames hd I5 os5 z5 m5 hin fun v s6 y H6 Hw Hi rv I6 z6 n1 ho n2 ha6 => ⟨by simp, ?_⟩)
        refine wpAny_bind (go_of (extO_at I6.hok ha6) hgo2 hgo1.choose_spec (by decide) ?_)
        have step := turn i H5 hin w5 y Hw Hi H6 n1 ho n2
        refine wpAny_mono (wpAny_asleep (Q := fun fin s' => fin = .again (.compLoop (.ListComp elt [⟨.Name x0 xp, iter, [], 0⟩, ⟨tg1, iter1, [], 0⟩] scope pos) 0 (.ref a) (.ref D) (compEnvC scope cl C X.env)) ∧
          ∃ H', Inv (blkOf X s3 (upd H2 D (.lst [])) scope [] cl C) [] (wipe σ (own.map (·.2))) H' s' ∧ ButM [D] H6 H' ∧ MOk [D] H' ∧ W (i + 1) H') (E := fun _ _ => False) ?_) (fun fin s' q => ?_) fun _ _ q => ?_
        · have I6s := Inv.regen I6 (bare_stoned I6.bare)
          refine wpAny_bind (wpAny_mono (pg.run _ _ _ H6 y v _ I6s rv step) (fun _ s8 q => ?_) fun _ _ z => z)
          obtain ⟨σ8, H8, I8, hw8, q8⟩ := q
          refine wpAny_bind (wpAny_tests_nil ?_)
          rw [if_pos rfl]
          refine wpAny_bind (wpAny_mono (pi1.run _ s8 σ8 H8 _ I8 q8) (fun xv s10 hx => ?_) fun _ _ z => z)
          refine wpAny_bind (wpAny_standAt (wpAny_bind (wpAny_of_eq (hs1 _ _) (wpAny_bind (wpAny_holding (wpAny_mono hx (fun itv s11 h11 => ?_) fun _ _ z => z))))))
          obtain ⟨it1, fp1, tn1, J1, H11, e1, I11, T1, st11, f11, W1, ⟨m1, w1⟩, turn1⟩ := h11
          subst e1
          refine wpAny_bind (wpAny_runOwn ?_)
          rw [Around.mark_none]
          have loop1 : codeAny (model X.prog X.w) X.A (.compLoop (.ListComp elt [⟨.Name x0 xp, iter, [], 0⟩, ⟨tg1, iter1, [], 0⟩] scope pos) 1 (.ref it1) (.ref D) (compEnvC scope cl C X.env))
              (fun r s' => ∃ f, r = .ok f ∧ ∃ H', Inv (blkOf X s3 (upd H2 D (.lst [])) scope [] cl C) [] (wipe σ (own.map (·.2))) H' s' ∧ ButM [D] H6 H' ∧ MOk [D] H' ∧ W (i + 1) H') s11 := by
            refine compLoop2_in (fun k s' => ∃ j H', Inv (blkOf X s3 (upd H2 D (.lst [])) scope [] cl C) [] (wipe σ8 vs1) H' s' ∧ tn1 j s'.heap ∧ (∀ b ∈ fp1, H' b = none) ∧ W1 j k H') ?_ m1
              ⟨0, H11, I11.weak (wipe_length _ _) (fun j v e => (wipe_some e).1), st11, fun b hb => (f11 b hb).1, w1⟩
            rintro k s12 ⟨j, H12, I12, st12, n12, w12⟩
            have stat1 : ∀ {H' : Hp}, (∀ b ∈ fp1, H' b = none) → ∀ b ∈ fp1, FpOk (blkOf X s3 (upd H2 D (.lst [])) scope [] cl C) [] H' b := fun hn b hb => ⟨hn b hb, (f11 b hb).2⟩
            rcases turn1 j k H12 w12 with ⟨stop1, b1, mm1, ww1⟩ | ⟨go1, Nx1, hNx1, step1⟩
            · refine thnF (T1.done (blkOf X s3 (upd H2 D (.lst [])) scope [] cl C) rfl rfl rfl hc j _ s12 (wipe σ8 vs1) H12 (fun _ _ => False) I12 (stat1 n12) st12 stop1) fun r s13 q => ?_
              obtain ⟨rfl, I13⟩ := q
              refine ⟨.next, rfl, H12, I13.weak ?_ (fun j v e => ?_), b1, mm1, ww1⟩
              · rw [wipe_length σ8, ← hw8, wipe_length]
              · rw [← hw8] at e
                obtain ⟨q1, q2⟩ := wipe_some e
                rw [wipe_out fun z => q2 (hv j z)]
                exact q1
            · refine thnF (T1.item (blkOf X s3 (upd H2 D (.lst [])) scope [] cl C) rfl rfl rfl hc j _ s12 (wipe σ8 vs1) H12 (fun _ _ => False) I12 (stat1 n12) st12 go1) fun r s13 q => ?_
              obtain ⟨u1, rfl, q⟩ := q
              refine thnF q fun _ s14 q => ?_
              obtain ⟨x1, H14, I14, r14, y14, st14, n14⟩ := q
              have I14p := I14.pinned (stat1 n14) (T1.obj _ _ st14)
              refine thnF (pg1.run _ s14 (wipe σ8 vs1) H14 x1 u1 _ I14p r14 (step1 x1 H14 y14)) fun _ s15 q => ?_
              obtain ⟨σ15, H15, I15, hw15, q15⟩ := q
              refine wpAny_tests_nil ?_
              rw [if_pos rfl]
              refine thnF (pe.run _ s15 σ15 H15 _ I15 q15) fun z s17 q => ?_
              obtain ⟨yv, H17, I17, r17, acc, hD17, hz17, nx⟩ := q
              refine app_ok (X := blkOf X s3 (upd H2 D (.lst [])) scope [] cl C) I17 hD17 hz17 r17 fun s18 I18 => ?_
              obtain ⟨m', hm, w'⟩ := hNx1 _ nx
              have pin' : ∀ b ∈ fp1, ∀ o, s14.heap.get? b = some o → s18.heap.get? b = some o ∧ (upd H17 D (.lst (acc ++ [yv]))) b = none := by
                intro b hb o e
                have z := I18.pin (b, o) (List.mem_append_right _ (List.mem_append_right _ (mem_pinsAt hb e)))
                exact ⟨z.1, z.2.1⟩
              refine ⟨m', hm, j + 1, _, I18.unpinned.weak (by rw [← hw15, wipe_length]) ?_, T1.keep _ _ _ st14 fun b hb o e => (pin' b hb o e).1, ?_, w'⟩
              · intro j v e
                rw [← hw15] at e
                exact (wipe_some e).1
              · intro b hb
                obtain ⟨o, e, _⟩ := T1.obj _ _ st14 b hb
                exact (pin' b hb o e).2
          refine codeAny_mono (compStart1_ok loop1 (T1.self X.A 0 _ _ _ st11 loop1)) fun rr s' hrr => ?_
          obtain ⟨f, rfl, H', I', b', m', w'⟩ := hrr
          exact wpAny_pure ⟨rfl, H', I', b', m', w'⟩
        · obtain ⟨G7, tw, dr, rfl, H7, I7, b7, m7, w7⟩ := q
          exact ⟨rfl, r - 1, by omega, i + 1, H7, by omega, Inv.back I7 (tw.bare I7.bare), z6.next (Nat.succ_ne_zero i) b7 dr, m7, w7⟩
        · obtain ⟨_, _, _, q⟩ := q
          exact False.elim q
      · have e : i = n := by omega
        subst e
        refine next_of_special (gen_done (X := blkOf X s3 (upd H2 D (.lst [])) scope [] cl C) hr.hd I5.ok.frames hd I5 os5 z5 m5 fun e s6 H6 Hw Hi st I6 n1 hf n2 => ⟨st, ?_⟩)
        exact wpAny_pure ⟨.next, rfl, _, H6, I6, stop H5 w5 Hw Hi H6 n1 hf n2⟩
    exact codeAny_compStart_list loop (wpAny_pyIter_gen ig4 loop)
theorem pe_lcG {k : Nat} {elt iter tg1 iter1 : Expr} {x0 : Str} {xp : Pos} {scope : Scope} {own : List (Str × Nat)} {vs1 : List Nat} {pos : Pos} {t : TGm} {wi1 : TI} {g g1 : TG} {te : TE}
    (hr : Room (k + 1) X.A) (hc : X.calm = true) (hN : X.N.Nodup) (hi : PGm X k iter t) (ok : BlkOk X.N X.env.scope scope own) (hv : ∀ i ∈ vs1, i ∈ own.map (·.2))
    (B : ∀ (s : Shared) (H : Hp) (fp : List Addr) (cl : List (Str × Addr)) (C : Addr), PG (blkOf X s H scope fp cl C) (.Name x0 xp) g ∧ PI (blkOf X s H scope fp cl C) tg1 iter1 wi1 ∧ PG (blkOf X s H scope fp cl C) tg1 g1 ∧ PE (blkOf X s H scope fp cl C) elt te)
    (hs : ∀ x, foldedSetIterable iter X.env x = pure x := by intro _; rfl) (hs1 : ∀ env x, foldedSetIterable iter1 env x = pure x := by intro _ _; rfl) :
    PE X (.ListComp elt [⟨.Name x0 xp, iter, [], 0⟩, ⟨tg1, iter1, [], 0⟩] scope pos) (tLcG t g wi1 g1 te (own.map (·.2)) vs1) := by
  refine ⟨fun pins s σ H Q I h => ?_⟩
  rw [eval_ListComp]
  exact lcg_core hr hc hN I hi ok hv B hs hs1 h fun D C s' m H' I' q hn f => blk_val I' q hn f
/-- name = {k: v for ..}, the name a local -/
theorem ps_setDcT {i : Nat} {y : Str} {py : Pos} {kx vx tg iter : Expr} {ifs : List Expr} {scope : Scope} {own : List (Str × Nat)} {pos spos : Pos} {wi : TI} {g : TG} {tt : TT} {tk tv : TE} (hu : X.A.units + 1 < cLine) (hc : X.calm = true) (hN : X.N.Nodup) (hy : X.N[i]? = some y) (hyl : X.env.scope.names.lookup y = some .local)
    (hsw : swapsWith (.DictComp kx vx [⟨tg, iter, ifs, 0⟩] scope pos) (some (.Name y py)) spos.line X.env = pure true) (hi : PI X tg iter wi) (ok : BlkOk X.N X.env.scope scope own)
    (B : ∀ (s : Shared) (H : Hp) (fp : List Addr) (cl : List (Str × Addr)) (C : Addr), PG (blkOf X s H scope fp cl C) tg g ∧ PTs (blkOf X s H scope fp cl C) ifs tt ∧ PE (blkOf X s H scope fp cl C) kx tk ∧ PE (blkOf X s H scope fp cl C) vx tv) (hs : ∀ x, foldedSetIterable iter X.env x = pure x := by intro _; rfl) :
    PS X (.Assign [.Name y py] (.DictComp kx vx [⟨tg, iter, ifs, 0⟩] scope pos) spos) (tAsg (tDcT wi g tt tk tv (own.map (·.2))) (gName i)) := by
  refine ⟨fun pins s σ H D I h => ?_⟩
  rw [exec_Assign_Name_used _ _ _ _ hsw]
  refine wpAny_bind (wpAny_standAt (wpAny_bind ?_))
  show wpAny _ X.A (do let _ ← comprehension (.DictComp kx vx [⟨tg, iter, ifs, 0⟩] scope pos) scope X.env (firstIterPos [⟨tg, iter, ifs, 0⟩] pos) newDict false (eval iter X.env) (some (assign (.Name y py) X.env))) _ _ s
  have h : tDcT wi g tt tk tv (own.map (·.2)) σ H (fun x H1 => gName i x σ H1 D.nx) := h
  refine wpAny_bind (thn (dcT_core (Qf := fun _ s' => SP X pins D .next s') hu hc hN I hi ok B hs h fun L C s' m H' I' q hn f => blk_set hN hy hyl I' q hn f) fun _ s' hq => wpAny_pure (wpAny_pure hq))
theorem sw_trueD {kx vx : Expr} {gs : List Comprehension} {scope : Scope} {pos py : Pos} {y : Str} {l : Nat} {env : Env} (hk : env.scope.kind = .function) (hy : env.scope.names.lookup y = some .local) (hl : (py.line == pos.line) = true)
    (ha : (scope.names.any fun (n, k) => n == y && (k == .local || k == .cell)) = false) : swapsWith (.DictComp kx vx gs scope pos) (some (.Name y py)) l env = pure true := by
  have ky : env.kindOf y = some .local := hy
  have hb : env.blockKind = .function := by unfold Env.blockKind; rw [hk]; rfl
  unfold swapsWith
  simp only [hb, ky, ha, Expr.pos, hl]
  rfl
end
end Hd
set_option maxHeartbeats 2000000
/-! What can come to be, front by front: mathematics. -/
namespace Hd
abbrev Stn := List Int
abbrev Org := Option (Stn × (Nat × Nat))
section
variable {κ β : Type} [DecidableEq κ]
/-- a dict as a list in the order of its keys' coming: k's value set -/
def putA (l : List (κ × β)) (k : κ) (v : β) : List (κ × β) := if (l.any fun q => decide (q.1 = k)) = true then l.map (fun q => if q.1 = k then (q.1, v) else q) else l ++ [(k, v)]
def lookA (l : List (κ × β)) (k : κ) : Option β := (l.find? fun q => decide (q.1 = k)).map (·.2)
theorem any_key {l : List (κ × β)} {k : κ} : (l.any fun q => decide (q.1 = k)) = true ↔ k ∈ l.map (·.1) := by
  rw [List.any_eq_true]
  constructor
  · rintro ⟨q, hq, e⟩
    exact List.mem_map.mpr ⟨q, hq, of_decide_eq_true e⟩
  · intro h
    obtain ⟨q, hq, e⟩ := List.mem_map.mp h
    exact ⟨q, hq, decide_eq_true e⟩
theorem keys_map (l : List (κ × β)) (k : κ) (v : β) : (l.map fun q => if q.1 = k then (q.1, v) else q).map (·.1) = l.map (·.1) := by
  rw [List.map_map]
  refine List.map_congr_left fun q _ => ?_
  show (if q.1 = k then (q.1, v) else q).1 = q.1
  split <;> rfl
theorem keys_put (l : List (κ × β)) (k : κ) (v : β) : (putA l k v).map (·.1) = if k ∈ l.map (·.1) then l.map (·.1) else l.map (·.1) ++ [k] := by
  unfold putA
  by_cases h : (l.any fun q => decide (q.1 = k)) = true
  · rw [if_pos h, if_pos (any_key.mp h), keys_map]
  · rw [if_neg h, if_neg (fun z => h (any_key.mpr z)), List.map_append]
    rfl
theorem nodup_put {l : List (κ × β)} (k : κ) (v : β) (h : (l.map (·.1)).Nodup) : ((putA l k v).map (·.1)).Nodup := by
  rw [keys_put]
  split
  · exact h
  · rename_i hk
    rw [List.nodup_append]
    refine ⟨h, by simp, fun a ha b hb => ?_⟩
    have e : b = k := by simpa using hb
    subst e
    exact fun z => hk (z ▸ ha)
theorem mem_put {l : List (κ × β)} {k x : κ} {v : β} : x ∈ (putA l k v).map (·.1) ↔ x ∈ l.map (·.1) ∨ x = k := by
  rw [keys_put]
  split
  · rename_i hk
    constructor
    · exact .inl
    · rintro (h | rfl)
      · exact h
      · exact hk
  · simp
theorem put_new {l : List (κ × β)} {k : κ} {v : β} (h : k ∉ l.map (·.1)) : putA l k v = l ++ [(k, v)] := by
  unfold putA
  rw [if_neg fun z => h (any_key.mp z)]
theorem lookA_none {l : List (κ × β)} {k : κ} : lookA l k = none ↔ k ∉ l.map (·.1) := by
  unfold lookA
  rw [Option.map_eq_none_iff, List.find?_eq_none]
  constructor
  · intro h z
    obtain ⟨q, hq, e⟩ := List.mem_map.mp z
    exact h q hq (decide_eq_true e)
  · intro h q hq e
    exact h (List.mem_map.mpr ⟨q, hq, of_decide_eq_true e⟩)
theorem lookA_at : ∀ {l : List (κ × β)}, (l.map (·.1)).Nodup → ∀ {k : κ} {v : β}, (k, v) ∈ l → lookA l k = some v
  | q :: l, nd, k, v, h => by
    rw [List.map_cons, List.nodup_cons] at nd
    unfold lookA
    rw [List.find?_cons]
    rcases List.mem_cons.mp h with e | h
    · subst e
      simp
    · have ne : ¬ q.1 = k := fun z => nd.1 (List.mem_map.mpr ⟨(k, v), h, z.symm⟩)
      rw [decide_eq_false ne]
      exact lookA_at nd.2 h
theorem lookA_mem {l : List (κ × β)} {k : κ} {v : β} (h : lookA l k = some v) : (k, v) ∈ l := by
  unfold lookA at h
  obtain ⟨q, hq, rfl⟩ := Option.map_eq_some_iff.mp h
  have z := List.find?_some (p := fun q : κ × β => decide (q.1 = k)) hq
  have e : q.1 = k := of_decide_eq_true z
  subst e
  exact List.mem_of_find?_eq_some hq
theorem lookA_put {l : List (κ × β)} {k x : κ} {v : β} : lookA (putA l k v) x = if x = k then some v else lookA l x := by
  unfold putA
  by_cases h : (l.any fun q => decide (q.1 = k)) = true
  · rw [if_pos h]
    have main : ∀ l : List (κ × β), lookA (l.map fun q => if q.1 = k then (q.1, v) else q) x = if x = k ∧ x ∈ l.map (·.1) then some v else lookA l x := by
      intro l
      induction l with
      | nil => simp [lookA]
      | cons q l ih =>
        unfold lookA at ih ⊢
        rw [List.map_cons, List.find?_cons, List.find?_cons, List.map_cons]
        by_cases hq : q.1 = k
        · rw [if_pos hq]
          by_cases hx : q.1 = x
          · simp only [decide_eq_true hx]
            rw [if_pos ⟨hx.symm.trans hq, by rw [hx]; exact List.mem_cons_self⟩]
            rfl
          · simp only [decide_eq_false hx]
            rw [ih]
            have n : ¬ x = k := fun z => hx (hq.trans z.symm)
            rw [if_neg fun z => n z.1, if_neg fun z => n z.1]
        · rw [if_neg hq]
          by_cases hx : q.1 = x
          · simp only [decide_eq_true hx]
            have n : ¬ x = k := fun z => hq (hx.trans z)
            rw [if_neg fun z => n z.1]
          · simp only [decide_eq_false hx]
            rw [ih]
            have n : ¬ x = q.1 := fun z => hx z.symm
            simp only [List.mem_cons, n, false_or]
    rw [main]
    by_cases e : x = k
    · rw [if_pos ⟨e, by rw [e]; exact any_key.mp h⟩, if_pos e]
    · rw [if_neg (fun z => e z.1), if_neg e]
  · rw [if_neg h]
    have hk : k ∉ l.map (·.1) := fun z => h (any_key.mpr z)
    unfold lookA
    rw [List.find?_append]
    by_cases e : x = k
    · subst e
      rw [if_pos rfl]
      have : l.find? (fun q => decide (q.1 = x)) = none := by
        have z := lookA_none.mpr hk
        unfold lookA at z
        exact Option.map_eq_none_iff.mp z
      rw [this]
      simp
    · rw [if_neg e]
      have : ¬ k = x := fun z => e z.symm
      cases q : l.find? (fun q => decide (q.1 = x)) with
      | none => simp [this]
      | some u => simp
theorem nodup_le [DecidableEq κ] : ∀ {l m : List κ}, l.Nodup → (∀ x ∈ l, x ∈ m) → l.length ≤ m.length
  | [], m, _, _ => Nat.zero_le _
  | a :: l, m, nd, h => by
    rw [List.nodup_cons] at nd
    have ha := h a List.mem_cons_self
    have z := nodup_le (m := m.erase a) nd.2 fun x hx => by
      have hne : x ≠ a := fun e => nd.1 (e ▸ hx)
      exact (List.mem_erase_of_ne hne).mpr (h x (List.mem_cons_of_mem _ hx))
    have e := List.length_erase_of_mem ha
    have pos : 0 < m.length := List.length_pos_of_mem ha
    rw [List.length_cons]
    omega
end
/-- the standings a step behind, in the order of the steps -/
def nxS (ns : Stn) : List Stn := (due ns).map fun p => mv ns p.1 p.2
/-- what is a step behind some of the front, by which -/
def orgn (es : List Stn) : List (Stn × Org) := (es.flatMap fun e => (due e).map fun p => (mv e p.1 p.2, some (e, p))).foldl (fun acc q => putA acc q.1 q.2) []
/-- what is found ahead of turn i, and the front of turn i -/
def stA (ns : Stn) : Nat → List Stn × List (Stn × Org)
  | 0 => ([ns], [(ns, none)])
  | i + 1 => ((stA ns i).1 ++ ((orgn ((stA ns i).2.map (·.1))).filter fun q => decide (q.1 ∉ (stA ns i).1)).map (·.1), (orgn ((stA ns i).2.map (·.1))).filter fun q => decide (q.1 ∉ (stA ns i).1))
def fnd (ns : Stn) (i : Nat) : List Stn := (stA ns i).1
def frn (ns : Stn) (i : Nat) : List (Stn × Org) := (stA ns i).2
theorem frn_succ (ns : Stn) (i : Nat) : frn ns (i + 1) = (orgn ((frn ns i).map (·.1))).filter fun q => decide (q.1 ∉ fnd ns i) := rfl
theorem fnd_succ (ns : Stn) (i : Nat) : fnd ns (i + 1) = fnd ns i ++ (frn ns (i + 1)).map (·.1) := rfl
theorem fold_keys {β : Type} : ∀ (qs : List (Stn × β)) (acc : List (Stn × β)), (acc.map (·.1)).Nodup → ((qs.foldl (fun acc q => putA acc q.1 q.2) acc).map (·.1)).Nodup ∧ ∀ x, x ∈ (qs.foldl (fun acc q => putA acc q.1 q.2) acc).map (·.1) ↔ x ∈ acc.map (·.1) ∨ x ∈ qs.map (·.1)
  | [], acc, h => ⟨h, fun x => by simp⟩
  | q :: qs, acc, h => by
    obtain ⟨a, b⟩ := fold_keys qs (putA acc q.1 q.2) (nodup_put _ _ h)
    refine ⟨a, fun x => ?_⟩
    rw [List.foldl_cons, b, mem_put, List.map_cons, List.mem_cons, or_assoc]
theorem orgn_nodup (es : List Stn) : ((orgn es).map (·.1)).Nodup := (fold_keys _ [] (by simp)).1
theorem mem_orgn {es : List Stn} {x : Stn} : x ∈ (orgn es).map (·.1) ↔ ∃ e ∈ es, x ∈ nxS e := by
  unfold orgn
  rw [(fold_keys _ [] (by simp)).2]
  simp only [List.map_nil, List.not_mem_nil, false_or]
  rw [List.map_flatMap, List.mem_flatMap]
  constructor
  · rintro ⟨e, he, hx⟩
    refine ⟨e, he, ?_⟩
    rw [List.map_map] at hx
    exact hx
  · rintro ⟨e, he, hx⟩
    refine ⟨e, he, ?_⟩
    rw [List.map_map]
    exact hx
theorem nodup_filter_map {α γ : Type} (f : α → γ) (p : α → Bool) : ∀ {l : List α}, (l.map f).Nodup → ((l.filter p).map f).Nodup
  | [], _ => by simp
  | a :: l, h => by
    rw [List.map_cons, List.nodup_cons] at h
    rw [List.filter_cons]
    split
    · rw [List.map_cons, List.nodup_cons]
      refine ⟨fun z => h.1 ?_, nodup_filter_map f p h.2⟩
      obtain ⟨q, hq, e⟩ := List.mem_map.mp z
      exact List.mem_map.mpr ⟨q, (List.mem_filter.mp hq).1, e⟩
    · exact nodup_filter_map f p h.2
theorem frn_nodup (ns : Stn) : ∀ i, ((frn ns i).map (·.1)).Nodup
  | 0 => by simp [frn, stA]
  | i + 1 => nodup_filter_map _ _ (orgn_nodup _)
theorem frn_new (ns : Stn) (i : Nat) : ∀ x ∈ (frn ns (i + 1)).map (·.1), x ∉ fnd ns i := fun x hx => by
  obtain ⟨q, hq, rfl⟩ := List.mem_map.mp hx
  exact of_decide_eq_true (List.mem_filter.mp hq).2
theorem fnd_nodup (ns : Stn) : ∀ i, (fnd ns i).Nodup
  | 0 => by simp [fnd, stA]
  | i + 1 => by
    rw [fnd_succ, List.nodup_append]
    exact ⟨fnd_nodup ns i, frn_nodup ns (i + 1), fun a ha b hb z => frn_new ns i b hb (z ▸ ha)⟩
theorem mem_frn {ns : Stn} {i : Nat} {x : Stn} : x ∈ (frn ns (i + 1)).map (·.1) ↔ (∃ e ∈ (frn ns i).map (·.1), x ∈ nxS e) ∧ x ∉ fnd ns i := by
  constructor
  · intro h
    refine ⟨?_, frn_new ns i x h⟩
    obtain ⟨q, hq, rfl⟩ := List.mem_map.mp h
    exact mem_orgn.mp (List.mem_map.mpr ⟨q, (List.mem_filter.mp hq).1, rfl⟩)
  · rintro ⟨h, hn⟩
    obtain ⟨q, hq, rfl⟩ := List.mem_map.mp (mem_orgn.mpr h)
    exact List.mem_map.mpr ⟨q, List.mem_filter.mpr ⟨hq, decide_eq_true hn⟩, rfl⟩
/-- of so many heaps, with that sum -/
def Bx (L : Nat) (S : Int) (x : Stn) : Prop := x.length = L ∧ NN x ∧ x.sum = S
theorem Bx.next {L : Nat} {S : Int} {x y : Stn} (h : Bx L S x) (hy : y ∈ nxS x) : Bx L S y := by
  obtain ⟨p, hp, rfl⟩ := List.mem_map.mp hy
  obtain ⟨a1, a2, a3, a4⟩ := mem_due.mp hp
  obtain ⟨b1, b2, b3⟩ := h
  exact ⟨(len_mv _ _ _).trans b1, b2.mv a1 a2 a3 a4, (sum_mv a1 a2 a3).trans b3⟩
theorem frn_bx {L : Nat} {S : Int} {ns : Stn} (h : Bx L S ns) : ∀ i, ∀ x ∈ (frn ns i).map (·.1), Bx L S x
  | 0, x, hx => by
    have e : x = ns := by simpa [frn, stA] using hx
    rw [e]; exact h
  | i + 1, x, hx => by
    obtain ⟨⟨e, he, hn⟩, _⟩ := mem_frn.mp hx
    exact (frn_bx h i e he).next hn
theorem fnd_bx {L : Nat} {S : Int} {ns : Stn} (h : Bx L S ns) : ∀ i, ∀ x ∈ fnd ns i, Bx L S x
  | 0, x, hx => by
    have e : x = ns := by simpa [fnd, stA] using hx
    rw [e]; exact h
  | i + 1, x, hx => by
    rw [fnd_succ] at hx
    rcases List.mem_append.mp hx with hx | hx
    · exact fnd_bx h i x hx
    · exact frn_bx h (i + 1) x hx
/-- all lists of so many numbers from 0 to S -/
def bx (S : Nat) : Nat → List Stn
  | 0 => [[]]
  | L + 1 => (List.range (S + 1)).flatMap fun k : Nat => (bx S L).map fun r => Int.ofNat k :: r
theorem len_bx (S : Nat) : ∀ L, (bx S L).length = (S + 1) ^ L
  | 0 => rfl
  | L + 1 => by
    have h : ∀ l : List Nat, (l.flatMap fun k : Nat => (bx S L).map fun r => Int.ofNat k :: r).length = l.length * (bx S L).length := by
      intro l
      induction l with
      | nil => simp
      | cons a l ih => rw [List.flatMap_cons, List.length_append, ih, List.length_map, List.length_cons, Nat.succ_mul, Nat.add_comm]
    rw [show bx S (L + 1) = (List.range (S + 1)).flatMap fun k : Nat => (bx S L).map fun r => Int.ofNat k :: r from rfl, h, len_bx S L, List.length_range, Nat.pow_succ, Nat.mul_comm]
theorem mem_bx {S : Nat} : ∀ {x : Stn}, (∀ k ∈ x, 0 ≤ k ∧ k ≤ (S : Int)) → x ∈ bx S x.length
  | [], _ => by simp [bx]
  | a :: x, h => by
    obtain ⟨h1, h2⟩ := h a List.mem_cons_self
    refine List.mem_flatMap.mpr ⟨a.toNat, List.mem_range.mpr (by omega), List.mem_map.mpr ⟨x, mem_bx fun k hk => h k (List.mem_cons_of_mem _ hk), ?_⟩⟩
    rw [show Int.ofNat a.toNat = ((a.toNat : Nat) : Int) from rfl, Int.toNat_of_nonneg h1]
theorem nn_le {x : Stn} (h : NN x) : ∀ k ∈ x, 0 ≤ k ∧ k ≤ x.sum := fun k hk => by
  refine ⟨h.mem k hk, ?_⟩
  obtain ⟨i, hi, e⟩ := List.mem_iff_getElem.mp hk
  have z := sum_one (i := i) h
  rw [List.getD_eq_getElem?_getD, List.getElem?_eq_getElem hi, e] at z
  exact z
theorem few_of {L : Nat} {S : Nat} {l : List Stn} (nd : l.Nodup) (h : ∀ x ∈ l, Bx L (S : Int) x) : l.length ≤ (S + 1) ^ L := by
  rw [← len_bx S L]
  refine nodup_le nd fun x hx => ?_
  obtain ⟨h1, h2, h3⟩ := h x hx
  rw [← h1]
  exact mem_bx fun k hk => by rw [← h3]; exact nn_le h2 k hk
theorem frn_stop {ns : Stn} {i : Nat} (h : frn ns i = []) : frn ns (i + 1) = [] := by
  rw [frn_succ, h]
  rfl
theorem frn_over {ns : Stn} {i : Nat} (h : frn ns i = []) : ∀ j, i ≤ j → frn ns j = [] := fun j hj => by
  obtain ⟨d, rfl⟩ := Nat.exists_eq_add_of_le hj
  induction d with
  | zero => exact h
  | succ d ih => exact frn_stop (ih (Nat.le_add_right _ _))
/-- how many fronts there are -/
structure Frs (ns : Stn) (n : Nat) : Prop where
  last : frn ns n = []
  more : ∀ i, i < n → frn ns i ≠ []
theorem fnd_grows {ns : Stn} : ∀ i, (∀ j, j ≤ i → frn ns j ≠ []) → i + 1 ≤ (fnd ns i).length
  | 0, _ => by simp [fnd, stA]
  | i + 1, h => by
    have z := fnd_grows i fun j hj => h j (by omega)
    rw [fnd_succ, List.length_append, List.length_map]
    have e : 0 < (frn ns (i + 1)).length := List.length_pos_iff.mpr (h (i + 1) (Nat.le_refl _))
    omega
theorem least {p : Nat → Prop} : ∀ (b : Nat), p b → ∃ n, n ≤ b ∧ p n ∧ ∀ i, i < n → ¬ p i := fun b hb => by
  induction b using Nat.strongRecOn with
  | ind b ih =>
    by_cases h : ∃ i, i < b ∧ p i
    · obtain ⟨i, hi, hp⟩ := h
      obtain ⟨n, h1, h2, h3⟩ := ih i hi hp
      exact ⟨n, by omega, h2, h3⟩
    · exact ⟨b, Nat.le_refl _, hb, fun i hi hp => h ⟨i, hi, hp⟩⟩
theorem frs_is {L S : Nat} {ns : Stn} (h : Bx L (S : Int) ns) : ∃ n, n ≤ (S + 1) ^ L ∧ Frs ns n := by
  have hb : ∃ i, i ≤ (S + 1) ^ L ∧ frn ns i = [] := by
    by_cases z : ∃ i, i ≤ (S + 1) ^ L ∧ frn ns i = []
    · exact z
    · exfalso
      have q := fnd_grows ((S + 1) ^ L) fun j hj e => z ⟨j, hj, e⟩
      have r := few_of (fnd_nodup ns ((S + 1) ^ L)) (fnd_bx h _)
      omega
  obtain ⟨i, hi, he⟩ := hb
  obtain ⟨n, h1, h2, h3⟩ := least (p := fun i => frn ns i = []) i he
  exact ⟨n, by omega, h2, h3⟩
theorem Frs.one {ns : Stn} {n m : Nat} (a : Frs ns n) (b : Frs ns m) : n = m := by
  rcases Nat.lt_trichotomy n m with h | h | h
  · exact absurd a.last (b.more n h)
  · exact h
  · exact absurd b.last (a.more m h)
theorem Frs.pos {ns : Stn} {n : Nat} (h : Frs ns n) : 0 < n := by
  rcases Nat.eq_zero_or_pos n with e | e
  · have q := h.last
    rw [e] at q
    simp [frn, stA] at q
  · exact e
end Hd
set_option maxHeartbeats 2000000
/-! A dict with keys that are tuples of ints, and the list that tells it. -/
namespace Hd
open PySem PySem.Spec PyProof.Rows L2
def kI (ns : Stn) : List L2.Key := ns.map Sum.inl
theorem kI_inj {a b : Stn} (h : kI a = kI b) : a = b := by
  unfold kI at h
  induction a generalizing b with
  | nil =>
    cases b with
    | nil => rfl
    | cons y b => simp at h
  | cons x a ih =>
    cases b with
    | nil => simp at h
    | cons y b =>
      simp only [List.map_cons, List.cons.injEq, Sum.inl.injEq] at h
      rw [h.1, ih h.2]
theorem kI_kV (ns : Stn) : (kI ns).map kV = ns.map V.int := by
  unfold kI
  rw [List.map_map]
  exact List.map_congr_left fun _ _ => rfl
/-- the dict told by m, each value as R has it -/
def Dm {β : Type} (R : V → β → Prop) (kvs : List (List L2.Key × V)) (m : List (Stn × β)) : Prop := Paired (fun p q => p.1 = kI q.1 ∧ R p.2 q.2) kvs m
section
variable {β : Type} {R R' : V → β → Prop} {kvs : List (List L2.Key × V)} {m : List (Stn × β)}
theorem Dm.mt : Dm R [] [] := Paired.nil
theorem Dm.len (h : Dm R kvs m) : kvs.length = m.length := Paired.length h
theorem Dm.imp (h : Dm R kvs m) (i : ∀ v b, R v b → R' v b) : Dm R' kvs m := Paired.mapP h fun p q z => ⟨z.1, i _ _ z.2⟩
theorem Dm.snoc {v : V} {k : Stn} {b : β} (h : Dm R kvs m) (r : R v b) : Dm R (kvs ++ [(kI k, v)]) (m ++ [(k, b)]) := by
  induction h with
  | nil => exact .cons ⟨rfl, r⟩ .nil
  | cons z t ih => exact .cons z ih
theorem Dm.val (h : Dm R kvs m) (k : Stn) : (lookA m k = none ∧ valV kvs (kI k) = none) ∨ ∃ b v, lookA m k = some b ∧ valV kvs (kI k) = some v ∧ R v b := by
  induction h with
  | nil => exact .inl ⟨rfl, rfl⟩
  | @cons p q ps qs z t ih =>
    by_cases e : q.1 = k
    · refine .inr ⟨q.2, p.2, ?_, valV_pos (z.1.trans (by rw [e])), z.2⟩
      unfold lookA
      rw [List.find?_cons, decide_eq_true e]
      rfl
    · have e' : ¬ p.1 = kI k := fun y => e (kI_inj (z.1.symm.trans y))
      rw [valV_neg e']
      unfold lookA at ih ⊢
      rw [List.find?_cons, decide_eq_false e]
      exact ih
theorem Dm.off (h : Dm R kvs m) {k : Stn} (hk : k ∉ m.map (·.1)) : valV kvs (kI k) = none := by
  rcases h.val k with z | ⟨b, v, z, _⟩
  · exact z.2
  · have := lookA_none.mpr hk
    rw [this] at z; cases z
theorem Dm.on (h : Dm R kvs m) {k : Stn} (hk : k ∈ m.map (·.1)) : ∃ b v, lookA m k = some b ∧ valV kvs (kI k) = some v ∧ R v b := by
  rcases h.val k with z | z
  · exact absurd hk (lookA_none.mp z.1)
  · exact z
theorem Dm.isSome (h : Dm R kvs m) (k : Stn) : (valV kvs (kI k)).isSome = decide (k ∈ m.map (·.1)) := by
  by_cases hk : k ∈ m.map (·.1)
  · obtain ⟨b, v, _, e, _⟩ := h.on hk
    rw [e, decide_eq_true hk]; rfl
  · rw [h.off hk, decide_eq_false hk]; rfl
theorem Dm.any (h : Dm R kvs m) (k : Stn) : (kvs.any fun kv => decide (kv.1 = kI k)) = (m.any fun q => decide (q.1 = k)) := by
  induction h with
  | nil => rfl
  | @cons p q ps qs z t ih =>
    rw [List.any_cons, List.any_cons, ih]
    have e : decide (p.1 = kI k) = decide (q.1 = k) := by
      by_cases y : q.1 = k
      · rw [decide_eq_true y, decide_eq_true (z.1.trans (by rw [y]))]
      · rw [decide_eq_false y, decide_eq_false fun u => y (kI_inj (z.1.symm.trans u))]
    rw [e]
theorem Dm.repl {v : V} {b : β} (h : Dm R kvs m) (k : Stn) (r : R v b) : Dm R (kvs.map fun kv => if kv.1 = kI k then (kv.1, v) else kv) (m.map fun q => if q.1 = k then (q.1, b) else q) := by
  induction h with
  | nil => exact .nil
  | @cons p q ps qs z t ih =>
    rw [List.map_cons, List.map_cons]
    refine .cons ?_ ih
    by_cases y : q.1 = k
    · rw [if_pos (z.1.trans (by rw [y])), if_pos y]
      exact ⟨z.1, r⟩
    · rw [if_neg fun u => y (kI_inj (z.1.symm.trans u)), if_neg y]
      exact z
theorem Dm.put {v : V} {b : β} (h : Dm R kvs m) (k : Stn) (r : R v b) : Dm R (putK kvs (kI k) v) (putA m k b) := by
  unfold putK putA
  rw [h.any k]
  split
  · exact h.repl k r
  · exact h.snoc r
theorem Dm.get (h : Dm R kvs m) {i : Nat} {k : List L2.Key} {v : V} (e : kvs[i]? = some (k, v)) : ∃ ns b, m[i]? = some (ns, b) ∧ k = kI ns ∧ R v b := by
  obtain ⟨q, hq, z⟩ := paired_get h e
  exact ⟨q.1, q.2, hq, z.1, z.2⟩
theorem Dm.at (h : Dm R kvs m) {i : Nat} {ns : Stn} {b : β} (e : m[i]? = some (ns, b)) : ∃ v, kvs[i]? = some (kI ns, v) ∧ R v b := by
  have hi : i < kvs.length := by
    rw [h.len]
    exact (List.getElem?_eq_some_iff.mp e).1
  obtain ⟨ns', b', e2, e3, e4⟩ := h.get (k := kvs[i].1) (v := kvs[i].2) (List.getElem?_eq_getElem hi)
  rw [e] at e2
  cases e2
  exact ⟨kvs[i].2, by rw [List.getElem?_eq_getElem hi, ← e3], e4⟩
theorem len_putA (l : List (Stn × β)) (k : Stn) (v : β) : (putA l k v).length ≤ l.length + 1 := by
  unfold putA
  split
  · rw [List.length_map]; omega
  · simp
end
/-- an origin: None, or the pair of the standing before and the step -/
def OrgAt (K : PySem.W.Frag) (H : Hp) (v : V) : Org → Prop
  | none => v = .non
  | some (e, p) => ∃ T te ts, v = .ref T ∧ H T = some (.tup [.ref te, .ref ts]) ∧ H te = some (.tup (e.map V.int)) ∧ SqT K H ts [.int (p.1 : Int), .int (p.2 : Int)]
theorem OrgAt.mono {K : PySem.W.Frag} {H H' : Hp} {v : V} {o : Org} (ht : ∀ b xs, H b = some (.tup xs) → H' b = some (.tup xs)) (hs : ∀ b xs, SqT K H b xs → SqT K H' b xs) (h : OrgAt K H v o) : OrgAt K H' v o := by
  cases o with
  | none => exact h
  | some o =>
    obtain ⟨T, te, ts, a, b, c, d⟩ := h
    exact ⟨T, te, ts, a, ht _ _ b, ht _ _ c, hs _ _ d⟩
theorem OrgAt.same {K : PySem.W.Frag} {H H' : Hp} {v : V} {o : Org} (s : Same H H') (h : OrgAt K H v o) : OrgAt K H' v o := h.mono (fun b xs e => s b _ e) fun b xs e => Same.tup s e
/-- one that is no tuple is changed: tuples stay -/
theorem sqt_other {K : PySem.W.Frag} {H : Hp} {l t : Addr} {xs : List V} {o u : HO} (hl : H l = some o) (n : ∀ ys, o ≠ .tup ys) (n2 : ∀ ob w, o ≠ .frz ob w) (h : SqT K H t xs) : SqT K (L2.upd H l u) t xs := by
  rcases h with (h | ⟨ob, h⟩) | h
  · exact .inl (.inl (by rw [upd_ne (ne_of h hl fun z => n _ z.symm)]; exact h))
  · exact .inl (.inr ⟨ob, by rw [upd_ne (ne_of h hl fun z => n2 _ _ z.symm)]; exact h⟩)
  · exact .inr h
theorem OrgAt.upd {K : PySem.W.Frag} {H : Hp} {l : Addr} {o u : HO} {v : V} {og : Org} (hl : H l = some o) (n : ∀ ys, o ≠ .tup ys) (n2 : ∀ ob w, o ≠ .frz ob w) (h : OrgAt K H v og) : OrgAt K (L2.upd H l u) v og :=
  h.mono (fun b xs e => by rw [upd_ne (ne_of e hl fun z => n _ z.symm)]; exact e) fun b xs e => sqt_other hl n n2 e
theorem Dm.keys {β : Type} {R : V → β → Prop} {kvs : List (List L2.Key × V)} {m : List (Stn × β)} (h : Dm R kvs m) : kvs.map (·.1) = (m.map (·.1)).map kI := by
  induction h with
  | nil => rfl
  | cons z t ih => rw [List.map_cons, List.map_cons, List.map_cons, ih, z.1]
/-- a dict comprehension over what is walked -/
theorem dcT_it {J : It} {n : Nat} {G : Hp → Prop} {Y : Nat → Hp → V → Hp → Prop} (w : Walk J n G Y) {g : TG} {tt : TT} {tk tv : TE} {vs : List Nat} {σ : L2.St} {H1 : Hp} {D : Addr} {Qd : Hp → Prop} (Pv : Nat → Hp → Prop) (h0 : Pv 0 (L2.upd H1 D (.dT []))) (hG : ∀ i H, i ≤ n → Pv i H → G H)
    (hs : ∀ i x H H', i < n → Pv i H → Y i H x H' → g x (wipe σ vs) H' fun σ2 H2 => wipe σ2 vs = wipe σ vs ∧ tt σ2 H2 fun b H3 =>
      if b = true then tk σ2 H3 fun y H4 => tv σ2 H4 fun z H5 => ∃ kvs k b, y = .ref b ∧ H5 b = some (.tup (List.map kV k)) ∧ H5 D = some (.dT kvs) ∧ kvs.length < sizeLine ∧ Pv (i + 1) (L2.upd H5 D (.dT (putK kvs k z))) else Pv (i + 1) H3) (hd : ∀ H, Pv n H → Qd H) :
    ∃ W : Nat → Nat → Hp → Prop, (∃ m, W 0 m (L2.upd H1 D (.dT []))) ∧ ∀ i m H, W i m H →
      (J.stop i H ∧ Qd H) ∨ (J.go i H ∧ ∃ Nx : Hp → Prop, (∀ H', Nx H' → ∃ m', m' < m ∧ W (i + 1) m' H') ∧ ∀ x H', J.yld i H x H' → g x (wipe σ vs) H' fun σ2 H2 => wipe σ2 vs = wipe σ vs ∧ tt σ2 H2 fun b H3 =>
        if b = true then tk σ2 H3 fun y H4 => tv σ2 H4 fun z H5 => ∃ kvs k b, y = .ref b ∧ H5 b = some (.tup (List.map kV k)) ∧ H5 D = some (.dT kvs) ∧ kvs.length < sizeLine ∧ Nx (L2.upd H5 D (.dT (putK kvs k z))) else Nx H3) := by
  refine ⟨fun i m H => m + i = n ∧ Pv i H, ⟨n, rfl, h0⟩, ?_⟩
  rintro i m H ⟨e, p⟩
  by_cases hlt : i < n
  · exact .inr ⟨w.goes i H hlt (hG i H (by omega) p), Pv (i + 1), fun H' p' => ⟨m - 1, by omega, by omega, p'⟩, fun x H' y => hs i x H H' hlt p (w.yields i H x H' hlt (hG i H (by omega) p) y)⟩
  · have e2 : i = n := by omega
    subst e2
    exact .inl ⟨w.stops H (hG i H (Nat.le_refl _) p), hd H p⟩
end Hd
set_option maxHeartbeats 8000000
namespace Hd
open PySem PySem.Spec PyProof.Rows L2
/-- all that comes to be from one -/
def addO (acc : List (Stn × Org)) (e : Stn) : List (Stn × Org) := ((due e).map fun p => (mv e p.1 p.2, (some (e, p) : Org))).foldl (fun acc q => putA acc q.1 q.2) acc
def addTo (acc : List (Stn × Org)) (e : Stn) (j : Nat) : List (Stn × Org) := (((due e).take j).map fun p => (mv e p.1 p.2, (some (e, p) : Org))).foldl (fun acc q => putA acc q.1 q.2) acc
theorem orgn_fold (es : List Stn) : orgn es = es.foldl addO [] := by
  unfold orgn
  rw [List.flatMap_def, List.foldl_flatten, List.foldl_map]
  rfl
theorem addTo_succ {acc : List (Stn × Org)} {e : Stn} {j : Nat} {p : Nat × Nat} (h : (due e)[j]? = some p) : addTo acc e (j + 1) = putA (addTo acc e j) (mv e p.1 p.2) (some (e, p)) := by
  unfold addTo
  rw [List.take_add_one, h, List.map_append, List.foldl_append]
  rfl
theorem addTo_all (acc : List (Stn × Org)) (e : Stn) : addTo acc e (due e).length = addO acc e := by
  unfold addTo addO
  rw [List.take_length]
theorem fold_take {α β : Type} (f : β → α → β) {l : List α} {i : Nat} {x : α} (h : l[i]? = some x) (b : β) : (l.take (i + 1)).foldl f b = f ((l.take i).foldl f b) x := by
  rw [List.take_add_one, h, List.foldl_append]
  rfl
/-- a dict of standings: its keys, none twice, all of the box -/
structure Few (L S : Nat) {β : Type} (m : List (Stn × β)) : Prop where
  nd : (m.map (·.1)).Nodup
  bx : ∀ x ∈ m.map (·.1), Bx L (S : Int) x
theorem Few.le {L S : Nat} {β : Type} {m : List (Stn × β)} (h : Few L S m) : m.length ≤ (S + 1) ^ L := by
  have z := few_of h.nd h.bx
  rw [List.length_map] at z
  exact z
theorem Few.put {L S : Nat} {β : Type} {m : List (Stn × β)} (h : Few L S m) {k : Stn} {v : β} (hk : Bx L (S : Int) k) : Few L S (putA m k v) :=
  ⟨nodup_put _ _ h.nd, fun x hx => by
    rcases mem_put.mp hx with z | z
    · exact h.bx x z
    · rw [z]; exact hk⟩
def spOrigins (K : PySem.W.Frag) : Sp := fun vs H Q _ => ∃ (d : Addr) (od : Obj) (kvs : List (List L2.Key × V)) (es : List Stn) (L S : Nat), vs = [.ref d] ∧ H d = some (.frz od (.dT kvs)) ∧ kvs.map (·.1) = es.map kI ∧ (∀ e ∈ es, Bx L (S : Int) e) ∧ L ≤ 6 ∧ (S + 1) ^ L < sizeLine ∧
  ∀ (p : Addr) (kvs' : List (List L2.Key × V)) (H' : Hp), Same H H' → H p = none → H' p = some (.dT kvs') → Dm (OrgAt K H') kvs' (orgn es) → Few L S (orgn es) → Q (.ref p) H'
section
variable {P : Program} {w : World} {K : PySem.W.Frag} {mg : Str → Option Value} {base : Heap}
abbrev s_origins : Stmt := top 45
theorem sc_origins : FnScope ["front", "found", "earlier", "step"] ["front"] (defScope s_origins) := ⟨rfl, rfl, rfl, by decide +kernel, rfl, by decide +kernel, by decide +kernel⟩
theorem ok_origins {f : Addr} {fd : FuncData} (F : Fun K "origins" "origins" s_origins f fd) (C_steps_from : Cal P w K mg base CX0 2 "steps_from" ["heaps"] (spSteps K)) (C_behind : Cal P w K mg base CX0 2 "behind" ["heaps", "step"] (spBehind K)) : FnOk P w K mg base CX0 3 f fd ["front"] (spOrigins K) := by
  refine F.ok sc_origins (fun vs H Q E h => ?_) (fun cdv A outer s H vs Q E hr h => ?_)
  · obtain ⟨d, od, kvs, es, L, S, rfl, _⟩ := h
    rfl
  · obtain ⟨d, od, kvs, es, L, S, rfl, hd, hk, hbx, hL, hS, k⟩ := h
    have hu := hu_of hr
    refine ⟨_, (pss_cons (ps_set (i := 1) sc_origins.nd rfl (Or.inl rfl) (pe_dnewT))
      (pss_cons (ps_for PassesOwn.never rfl (pi_keys (pv 0)) (pg_name (i := 2) sc_origins.nd rfl (Or.inl rfl))
      (pss_one (ps_for PassesOwn.never rfl (pi_list (pe_cal C_steps_from hr rfl pass0 (pa_cons (pv 2) pa_nil))) (pg_name (i := 3) sc_origins.nd rfl (Or.inl rfl))
      (pss_one (ps_dput hu (pv 1) (pe_cal C_behind hr rfl pass0 (pa_cons (pv 2) (pa_cons (pv 3) pa_nil))) (pe_tup (pa_cons (pv 2) (pa_cons (pv 3) pa_nil))) rfl)))))
      (pss_one (ps_ret (pv 1))))), ?_⟩
    refine fun p hp => ?_
    have hfz : (upd H p (.dT [])) d = some (.frz od (.dT kvs)) := by rw [upd_ne (ne_of_none hd hp)]; exact hd
    have hlen : kvs.length = es.length := by
      have e := congrArg List.length hk
      rw [List.length_map, List.length_map] at e
      exact e
    have hpow : sizeLine = 16777216 := sizeLine_eq
    refine ⟨_, rfl, d, od, rfl, .inr ⟨kvs, hfz, ?_⟩⟩
    refine for_it (walk_keysT (d := d) (o := od) (kvs := kvs)) (fun i σ H1 => ∃ (x2 x3 : Option V) (kv : List (List L2.Key × V)), σ = [some (.ref d), some (.ref p), x2, x3] ∧ Same H H1 ∧ H1 p = some (.dT kv) ∧
      Dm (OrgAt K H1) kv ((es.take i).foldl addO []) ∧ Few L S ((es.take i).foldl addO [])) ?_ ?_ ?_ ?_
    · exact ⟨_, _, [], rfl, Same.new hp, upd_same, Dm.mt, ⟨by simp, fun x hx => by simp at hx⟩⟩
    · rintro i σ H1 _ ⟨x2, x3, kv, rfl, s1, _⟩
      exact s1 _ _ hd
    · rintro i x σ H1 H1' hi ⟨x2, x3, kv, rfl, s1, hp1, hm, hf⟩ ⟨e1, k1, v1, q, hkv, rfl, hq⟩
      subst e1
      have hie : i < es.length := by omega
      obtain ⟨e, he⟩ : ∃ e, es[i]? = some e := ⟨es[i], List.getElem?_eq_getElem hie⟩
      have ek : k1 = kI e := by
        have a1 := congrArg (fun l => l[i]?) hk
        simp only [List.getElem?_map, hkv, he, Option.map_some, Option.some.injEq] at a1
        exact a1
      subst ek
      rw [kI_kV] at hq
      have hbe := hbx e (List.mem_of_getElem? he)
      obtain ⟨b1, b2, b3⟩ := id hbe
      rw [fold_take _ he]
      refine ⟨_, rfl, q, e, rfl, SqT.of hq, by omega, fun l qs H2 s2 hl hP hq2 => ⟨l, rfl, ⟨_, SqL.of hP.ls⟩, ?_⟩⟩
      have hpl : p ≠ l := ne_of_none hp1 hl
      refine for_it (walk_list (K := K) (a := l) (xs := qs.map fun p => V.ref p.1)) (fun j σ H3 => ∃ (x3 : Option V) (kv : List (List L2.Key × V)), σ = [some (.ref d), some (.ref p), some (.ref q), x3] ∧ (∀ b o, b ≠ p → H2 b = some o → H3 b = some o) ∧ H3 p = some (.dT kv) ∧
        Dm (OrgAt K H3) kv (addTo ((es.take i).foldl addO []) e j) ∧ Few L S (addTo ((es.take i).foldl addO []) e j)) ?_ ?_ ?_ ?_
      · exact ⟨_, kv, rfl, fun b o _ q => q, s2 _ _ hp1, hm.imp fun v b r => r.same s2, hf⟩
      · rintro j σ H3 _ ⟨x3, kv3, rfl, s3, _⟩
        exact SqL.of (s3 _ _ hpl.symm hP.ls)
      · rintro j x σ H3 H3' hj ⟨y3, kv3, rfl, s3, hp3, hm3, hf3⟩ ⟨e3, hx⟩
        subst e3
        rw [List.getElem?_map] at hx
        obtain ⟨r, hr3, rfl⟩ := Option.map_eq_some_iff.mp hx
        obtain ⟨a1, a2, a3, a4⟩ := hP.st r (List.mem_of_getElem? hr3)
        have hdue : (due e)[j]? = some r.2 := by rw [← hq2, List.getElem?_map, hr3]; rfl
        have sqt3 : ∀ {b xs}, SqT K H2 b xs → SqT K H3' b xs := fun {b xs} h => by
          rcases h with (h | ⟨ob, h⟩) | h
          · exact .inl (.inl (s3 _ _ (ne_of (s2 _ _ hp1) h fun z => nomatch z).symm h))
          · exact .inl (.inr ⟨ob, s3 _ _ (ne_of (s2 _ _ hp1) h fun z => nomatch z).symm h⟩)
          · exact .inr h
        have hq3 : H3' q = some (.tup (e.map V.int)) := s3 _ _ (ne_of hp1 hq fun z => nomatch z).symm (s2 _ _ hq)
        refine ⟨_, rfl, _, rfl, by show 2 ≤ sizeLine; decide, fun T hT => ?_⟩
        have s4 : Same H3' (upd H3' T (.tup [.ref q, .ref r.1])) := Same.new hT
        refine ⟨_, rfl, _, rfl, _, rfl, q, r.1, e, r.2.1, r.2.2, rfl, SqT.of (s4 _ _ hq3), Same.tup s4 (sqt3 a1), a2, a3, a4, fun y H5 s5 hy hy5 => ?_⟩
        have hp5 := s5 _ _ (s4 _ _ hp3)
        have hmv : Bx L (S : Int) (mv e r.2.1 r.2.2) := hbe.next (List.mem_map.mpr ⟨r.2, List.mem_of_getElem? hdue, rfl⟩)
        have hfew := hf3.put (v := (some (e, r.2) : Org)) hmv
        have hlt : kv3.length < sizeLine := by
          have := hf3.le
          have e5 := hm3.len
          omega
        refine ⟨p, _, rfl, DPut.t (k := kI (mv e r.2.1 r.2.2)) hp5 (by rw [kI_kV]; exact hy5) hlt, ?_⟩
        have orgM : ∀ v o, OrgAt K H5 v o → OrgAt K (upd H5 p (.dT (putK kv3 (kI (mv e r.2.1 r.2.2)) (.ref T)))) v o := fun v o h => h.upd hp5 (fun _ z => nomatch z) fun _ _ z => nomatch z
        refine ⟨_, _, rfl, fun b o nb hb => by rw [upd_ne nb]; exact s5 _ _ (s4 _ _ (s3 _ _ nb hb)), upd_same, ?_, ?_⟩
        · rw [addTo_succ hdue]
          refine ((hm3.imp fun v b r => (r.same s4).same s5).put _ ?_).imp orgM
          exact ⟨T, q, r.1, rfl, s5 _ _ upd_same, s5 _ _ (s4 _ _ hq3), Same.tup s5 (Same.tup s4 (sqt3 a1))⟩
        · rw [addTo_succ hdue]
          exact hfew
      · rintro σ H3 ⟨y3, kv3, rfl, s3, hp3, hm3, hf3⟩
        have el : (qs.map fun p => V.ref p.1).length = (due e).length := by rw [List.length_map, ← hq2, List.length_map]
        rw [el, addTo_all] at hm3 hf3
        exact ⟨_, _, kv3, rfl, fun b o hb => s3 _ _ (ne_of_none hb hp) (s2 _ _ (s1 _ _ hb)), hp3, hm3, hf3⟩
    · rintro σ H1 ⟨x2, x3, kv, rfl, s1, hp1, hm, hf⟩
      rw [hlen, List.take_length, ← orgn_fold] at hm hf
      exact ⟨_, rfl, k p kv H1 s1 hp hp1 hm hf⟩
end
/-- the fronts, one by one, each a dict of its own that is never written again -/
def frG (K : PySem.W.Frag) (ns : Stn) (H0 : Hp) (M : List Addr) : GPr where
  out := fun i Hw x H => ∃ (p fa : Addr) (o : Obj) (kr : List (List L2.Key × V)), x = .ref p ∧ H p = some (.frz o (.dT kr)) ∧ Dm (OrgAt K H) kr (frn ns i) ∧ fa ∉ M ∧ (∀ u, H0 fa = some u → ∃ φ, u = .ext φ) ∧ (∀ u, Hw fa = some u → ∃ kv, u = .dT kv) ∧ ∀ b o, b ≠ fa → Hw b = some o → H b = some o
  fin := fun i Hw H => ∃ fa : Addr, fa ∉ M ∧ (∀ u, H0 fa = some u → ∃ φ, u = .ext φ) ∧ (∀ u, Hw fa = some u → ∃ kv, u = .dT kv) ∧ ∀ b o, b ≠ fa → Hw b = some o → H b = some o
def spFronts (K : PySem.W.Frag) : SpN := fun vs H G n => ∃ (t : Addr) (ns : Stn) (L S : Nat), vs = [.ref t] ∧ H t = some (.tup (ns.map V.int)) ∧ Bx L (S : Int) ns ∧ L ≤ 6 ∧ (S + 1) ^ L < sizeLine ∧ Frs ns n ∧ G = frG K ns H
section
variable {P : Program} {w : World} {K : PySem.W.Frag} {mg : Str → Option Value} {base : Heap}
abbrev s_fronts : Stmt := top 44
theorem sc_fronts : GScope ["heaps", "found", "front", "onward", "stand"] ["heaps"] (defScope s_fronts) := ⟨rfl, rfl, rfl, by decide +kernel, rfl, by decide +kernel, by decide +kernel⟩
theorem nodup_at {α : Type} {l : List α} {i j : Nat} {x : α} (nd : l.Nodup) (a : l[i]? = some x) (b : l[j]? = some x) : i = j := by
  obtain ⟨ha, ea⟩ := List.getElem?_eq_some_iff.mp a
  obtain ⟨hb, eb⟩ := List.getElem?_eq_some_iff.mp b
  exact List.getElem_inj nd |>.mp (ea.trans eb.symm)
theorem ok_fronts {f : Addr} {fd : FuncData} (F : Fun K "fronts" "fronts" s_fronts f fd) (C_origins : Cal P w K mg base CX0 3 "origins" ["front"] (spOrigins K)) : GDef P w K mg base 4 f fd ["heaps"] (spFronts K) := by
  refine Fun.gen (N := ["heaps", "found", "front", "onward", "stand"]) (pre := [_, _]) F sc_fronts rfl (fun vs H G n h => ?_) (fun cdv A outer L hr => ?_)
  · obtain ⟨t, ns, L, S, rfl, _⟩ := h
    rfl
  · have hu := hu_of hr
    refine ⟨_, _, _, _, (.cons (fun _ _ => (ps_set (i := 1) sc_fronts.nd rfl (Or.inr rfl) (pe_disp1 (Nat.lt_of_succ_lt hu) (pv 0) pe_bl))) (.cons (fun _ _ => (ps_frz (ps_set (i := 2) sc_fronts.nd rfl (Or.inl rfl) (pe_disp1 (Nat.lt_of_succ_lt hu) (pv 0) pe_non)))) .nil)), ⟨fun _ _ => (pt_truT (pv 2)), fun _ _ => (pv 2), fun _ _ => (pss_cons (ps_frz (ps_set (i := 3) sc_fronts.nd rfl (Or.inr rfl) (pe_cal C_origins hr rfl pass0 (pa_cons (pv 2) pa_nil))))
      (pss_cons (ps_frz (ps_setDcT (i := 2) (own := [("stand", 4)]) (g := gName 4) hu (by rfl) sc_fronts.nd rfl rfl (sw_trueD rfl rfl rfl (by decide +kernel)) (pi_keys (pv 3)) (blkOk_by (own := [("stand", 4)]) (N := ["heaps", "found", "front", "onward", "stand"]) (sc := defScope s_fronts) (by decide +kernel)) (fun _ _ _ _ _ => ⟨pg_name (i := 4) sc_fronts.nd rfl (Or.inl rfl), pts_one (pt_cmp (pc_dnotin hu (pv 4) (pv 1))), (pv 4), (pe_dget hu (pv 3) (pv 4) (fun _ _ => rfl))⟩)))
      (pss_one (ps_for PassesOwn.never rfl (pi_keys (pv 2)) (pg_name (i := 4) sc_fronts.nd rfl (Or.inl rfl))
      (pss_one (ps_dput hu (pv 1) (pv 4) pe_bl rfl))))))⟩, ?_⟩
    rintro vs H G n ⟨t, ns, L, S, rfl, hT, hB, hL, hS, hF, rfl⟩ M hMH
    have hpow : sizeLine = 16777216 := sizeLine_eq
    refine ⟨fun i Hw σ H' => i ≤ n ∧ MOk M Hw ∧ ∃ (T fa pf : Addr) (o : Obj) (kf kr : List (List L2.Key × V)) (x3 x4 : Option V), σ = [some (.ref T), some (.ref fa), some (.ref pf), x3, x4] ∧ H' fa = some (.dT kf) ∧ Dm (fun v (_ : Unit) => v = .bl true) kf ((fnd ns i).map fun x => (x, ())) ∧
      H' pf = some (.frz o (.dT kr)) ∧ Dm (OrgAt K H') kr (frn ns i) ∧ fa ∉ M ∧ (∀ u, H fa = some u → ∃ φ, u = .ext φ) ∧ (∀ u, Hw fa = some u → ∃ kv, u = .dT kv) ∧ ∀ b o, b ≠ fa → Hw b = some o → H' b = some o, ⟨?_⟩, ?_⟩
    · rintro i Hw σ H' ⟨hi, hMw, T, fa, pf, o, kf, kr, x3, x4, rfl, hfa, hmf, hpf, hmr, hfM, hf0, hfw, hkeep⟩
      have kp : Kp Hw H' := ⟨fun b φ e => hkeep b _ (fun z => by
        subst z
        obtain ⟨kv, q⟩ := hfw _ e
        cases q) e, fun b e => by
        by_cases z : b = fa
        · rw [z, hfa]; simp
        · cases q : Hw b with
          | none => exact absurd q e
          | some u => rw [hkeep b u z q]; simp⟩
      refine ⟨_, rfl, pf, kr, rfl, .inr ⟨o, hpf⟩, ?_⟩
      have hlr := hmr.len
      rcases Bool.eq_false_or_eq_true (!kr.isEmpty) with hb | hb
      · rw [hb]
        have e0 : frn ns i ≠ [] := fun z => by
          rw [z] at hlr
          have : kr = [] := List.length_eq_zero_iff.mp hlr
          rw [this] at hb; cases hb
        have hin : i < n := by
          rcases Nat.lt_or_ge i n with z | z
          · exact z
          · exact absurd (frn_over hF.last i z) e0
        refine iteT ⟨hin, _, rfl, kp, ⟨pf, fa, o, kr, rfl, hpf, hmr, hfM, hf0, hfw, hkeep⟩, fun Hw2 nx mo => ?_⟩
        have nM : ∀ b u, H' b = some u → ¬ Own u → b ∉ M := fun b u e no hb => by
          obtain ⟨u2, ow, e2⟩ := hMw b hb
          have e3 := hkeep b u2 (fun z => hfM (z ▸ hb)) e2
          rw [e] at e3; cases e3; exact no ow
        have tup2 : ∀ b xs, H' b = some (.tup xs) → Hw2 b = some (.tup xs) := fun b xs e => nx b _ (nM b _ e fun z => z.nt xs rfl) (fun φ z => nomatch z) e
        have sqt2 : ∀ b xs, SqT K H' b xs → SqT K Hw2 b xs := fun b xs h => by
          rcases h with (h | ⟨ob, h⟩) | h
          · exact .inl (.inl (tup2 b xs h))
          · exact .inl (.inr ⟨ob, nx b _ (nM b _ h fun z => z.nf ob _ rfl) (fun φ z => nomatch z) h⟩)
          · exact .inr h
        have hpf2 : Hw2 pf = some (.frz o (.dT kr)) := nx pf _ (nM pf _ hpf fun z => z.nf _ _ rfl) (fun φ z => nomatch z) hpf
        have hfa2 : Hw2 fa = some (.dT kf) := nx fa _ hfM (fun φ z => nomatch z) hfa
        have hmr2 : Dm (OrgAt K Hw2) kr (frn ns i) := hmr.imp fun v b r => r.mono tup2 sqt2
        refine ⟨_, rfl, pf, o, kr, (frn ns i).map (·.1), L, S, rfl, hpf2, hmr2.keys, frn_bx hB i, hL, hS, fun p1 kv1 H3 s3 hp1 hd1 hm1 hf1 => ⟨p1, _, hd1, True.intro, fun od1 => ?_⟩⟩
        have nfp : fa ≠ p1 := ne_of_none hfa2 hp1
        have s4 : Same Hw2 (upd H3 p1 (.frz od1 (.dT kv1))) := fun b u e => by rw [upd_ne (ne_of_none e hp1)]; exact s3 b u e
        have hm4 : Dm (OrgAt K (upd H3 p1 (.frz od1 (.dT kv1)))) kv1 (orgn ((frn ns i).map (·.1))) := hm1.imp fun v b r => r.upd hd1 (fun _ z => nomatch z) fun _ _ z => nomatch z
        have hd4 : (upd H3 p1 (.frz od1 (.dT kv1))) p1 = some (.frz od1 (.dT kv1)) := upd_same
        generalize upd H3 p1 (.frz od1 (.dT kv1)) = H4 at s4 hm4 hd4 ⊢
        have hfa4 := s4 _ _ hfa2
        refine ⟨_, rfl, p1, od1, rfl, .inr ⟨kv1, hd4, fun D hD => ?_⟩⟩
        refine dcT_it (walk_keysT (d := p1) (o := od1) (kvs := kv1)) (fun j H5 => ∃ kv', H5 D = some (.dT kv') ∧ Dm (OrgAt K H5) kv' (((orgn ((frn ns i).map (·.1))).take j).filter fun q => decide (q.1 ∉ fnd ns i)) ∧ ∀ b u, b ≠ D → H4 b = some u → H5 b = some u) ?_ ?_ ?_ ?_
        · exact ⟨[], upd_same, Dm.mt, fun b u nb e => by rw [upd_ne nb]; exact e⟩
        · rintro j H5 _ ⟨kv', _, _, k5⟩
          exact k5 _ _ (ne_of_none hd4 hD) hd4
        · rintro j x H5 H5' hj ⟨kv', hD5, hm5, k5⟩ ⟨e5, kk, vv, q, hkv, rfl, hq⟩
          subst e5
          obtain ⟨y, b, hy, rfl, hr⟩ := hm4.get hkv
          have hfa5 := k5 _ _ (ne_of_none hfa4 hD) hfa4
          have hp5 := k5 _ _ (ne_of_none hd4 hD) hd4
          have take5 : ((orgn ((frn ns i).map (·.1))).take (j + 1)).filter (fun q => decide (q.1 ∉ fnd ns i)) = ((orgn ((frn ns i).map (·.1))).take j).filter (fun q => decide (q.1 ∉ fnd ns i)) ++ (if y ∉ fnd ns i then [(y, b)] else []) := by
            rw [filter_take hy]
            by_cases z : y ∉ fnd ns i
            · rw [if_pos (decide_eq_true z), if_pos z]
            · rw [if_neg (by rw [decide_eq_false z]; decide), if_neg z]
          refine ⟨rfl, _, rfl, _, rfl, fa, _, rfl, DGet.t hfa5 hq, _, rfl, ?_⟩
          rw [hmf.isSome y]
          have emem : decide (y ∈ ((fnd ns i).map fun x => (x, ())).map (·.1)) = decide (y ∈ fnd ns i) := by
            rw [List.map_map]
            congr 1
            simp
          rw [emem]
          by_cases z : y ∈ fnd ns i
          · rw [decide_eq_true z]
            refine iteF ⟨kv', hD5, ?_, k5⟩
            rw [take5, if_neg (fun u => u z), List.append_nil]
            exact hm5
          · rw [decide_eq_false z]
            obtain ⟨b2, v2, hl2, hv2, hr2⟩ := hm4.on (k := y) (List.mem_map.mpr ⟨(y, b), List.mem_of_getElem? hy, rfl⟩)
            have eb : b2 = b := by
              have := lookA_at hf1.nd (List.mem_of_getElem? hy)
              rw [hl2] at this
              exact Option.some.inj this
            subst eb
            have hlt : kv'.length < sizeLine := by
              have e1 := hm5.len
              have e2 := List.length_filter_le (fun q => decide (q.1 ∉ fnd ns i)) ((orgn ((frn ns i).map (·.1))).take j)
              rw [List.length_take] at e2
              have e3 := hf1.le
              omega
            have hnk : y ∉ (((orgn ((frn ns i).map (·.1))).take j).filter fun q => decide (q.1 ∉ fnd ns i)).map (·.1) := fun u => by
              obtain ⟨q2, hq2, e2⟩ := List.mem_map.mp u
              have hq3 := (List.mem_filter.mp hq2).1
              obtain ⟨j2, hj2, e3⟩ := List.mem_iff_getElem.mp hq3
              rw [List.length_take] at hj2
              rw [List.getElem_take] at e3
              have n1 : ((orgn ((frn ns i).map (·.1))).map (·.1))[j2]? = some y := by rw [List.getElem?_map, List.getElem?_eq_getElem (by omega), e3, ← e2]; rfl
              have n2 : ((orgn ((frn ns i).map (·.1))).map (·.1))[j]? = some y := by rw [List.getElem?_map, hy]; rfl
              have := nodup_at hf1.nd n1 n2
              omega
            refine iteT ⟨_, rfl, _, rfl, _, rfl, p1, v2, rfl, .inr ⟨kv1, kI y, q, .inr ⟨od1, hp5⟩, rfl, hq, hv2.symm⟩, kv', kI y, q, rfl, hq, hD5, hlt, ?_⟩
            refine ⟨_, upd_same, ?_, fun b u nb e => by rw [upd_ne nb]; exact k5 b u nb e⟩
            rw [take5, if_pos z]
            have hp := hm5.put y (v := v2) (b := b2) ?_
            · rw [put_new hnk] at hp
              exact hp.imp fun v b r => r.upd hD5 (fun _ z => nomatch z) fun _ _ z => nomatch z
            · exact hr2.mono (fun b xs e => k5 _ _ (ne_of_none e hD) e) fun b xs h => by
                rcases h with (h | ⟨ob, h⟩) | h
                · exact .inl (.inl (k5 _ _ (ne_of_none h hD) h))
                · exact .inl (.inr ⟨ob, k5 _ _ (ne_of_none h hD) h⟩)
                · exact .inr h
        · rintro H5 ⟨kv', hD5, hm5, k5⟩
          have hl4 := hm4.len
          rw [hl4, List.take_length, ← frn_succ] at hm5
          refine ⟨D, _, hD5, True.intro, fun od2 => ?_⟩
          have hfa5 := k5 _ _ (ne_of_none hfa4 hD) hfa4
          have nfD : fa ≠ D := ne_of_none hfa4 hD
          have hm6 : Dm (OrgAt K (upd H5 D (.frz od2 (.dT kv')))) kv' (frn ns (i + 1)) := hm5.imp fun v b r => r.upd hD5 (fun _ z => nomatch z) fun _ _ z => nomatch z
          have hD6 : (upd H5 D (.frz od2 (.dT kv'))) D = some (.frz od2 (.dT kv')) := upd_same
          have hfa6 : (upd H5 D (.frz od2 (.dT kv'))) fa = some (.dT kf) := by rw [upd_ne nfD]; exact hfa5
          have k6 : ∀ b u, Hw2 b = some u → (upd H5 D (.frz od2 (.dT kv'))) b = some u := fun b u e => by
            have e4 := s4 b u e
            rw [upd_ne (ne_of_none e4 hD)]
            exact k5 b u (ne_of_none e4 hD) e4
          generalize upd H5 D (.frz od2 (.dT kv')) = H6 at hm6 hD6 hfa6 k6 ⊢
          refine ⟨_, rfl, D, od2, rfl, .inr ⟨kv', hD6, ?_⟩⟩
          refine for_it (walk_keysT (d := D) (o := od2) (kvs := kv')) (fun j σ H7 => ∃ (x4 : Option V) (kf' : List (List L2.Key × V)), σ = [some (.ref T), some (.ref fa), some (.ref D), some (.ref p1), x4] ∧ H7 fa = some (.dT kf') ∧
            Dm (fun v (_ : Unit) => v = .bl true) kf' ((fnd ns i ++ ((frn ns (i + 1)).take j).map (·.1)).map fun x => (x, ())) ∧ ∀ b u, b ≠ fa → H6 b = some u → H7 b = some u) ?_ ?_ ?_ ?_
          · refine ⟨_, kf, rfl, hfa6, ?_, fun b u _ e => e⟩
            simpa using hmf
          · rintro j σ H7 _ ⟨x4, kf', rfl, _, _, k7⟩
            exact k7 _ _ nfD.symm hD6
          · rintro j x σ H7 H7' hj ⟨x4', kf', rfl, hf7, hm7, k7⟩ ⟨e7, kk, vv, q, hkv, rfl, hq⟩
            subst e7
            obtain ⟨y, b, hy, rfl, hr⟩ := hm6.get hkv
            have hjl : j < (frn ns (i + 1)).length := (List.getElem?_eq_some_iff.mp hy).1
            have hlt : kf'.length < sizeLine := by
              have e1 := hm7.len
              rw [List.length_map, List.length_append, List.length_map, List.length_take] at e1
              have e2 := few_of (fnd_nodup ns (i + 1)) (fnd_bx hB (i + 1))
              rw [fnd_succ, List.length_append, List.length_map] at e2
              omega
            have hnk : y ∉ ((fnd ns i ++ ((frn ns (i + 1)).take j).map (·.1)).map fun x => (x, ())).map (·.1) := fun u => by
              have u2 : y ∈ fnd ns i ++ ((frn ns (i + 1)).take j).map (·.1) := by
                obtain ⟨q1, hq1, e1⟩ := List.mem_map.mp u
                obtain ⟨q0, hq0, e0⟩ := List.mem_map.mp hq1
                rw [← e1, ← e0]
                exact hq0
              rcases List.mem_append.mp u2 with u3 | u3
              · exact frn_new ns i y (List.mem_map.mpr ⟨(y, b), List.mem_of_getElem? hy, rfl⟩) u3
              · obtain ⟨q2, hq2, e2⟩ := List.mem_map.mp u3
                obtain ⟨j2, hj2, e3⟩ := List.mem_iff_getElem.mp hq2
                rw [List.length_take] at hj2
                rw [List.getElem_take] at e3
                have n1 : ((frn ns (i + 1)).map (·.1))[j2]? = some y := by rw [List.getElem?_map, List.getElem?_eq_getElem (by omega), e3, ← e2]; rfl
                have n2 : ((frn ns (i + 1)).map (·.1))[j]? = some y := by rw [List.getElem?_map, hy]; rfl
                have := nodup_at (frn_nodup ns (i + 1)) n1 n2
                omega
            refine ⟨_, rfl, _, rfl, fa, _, rfl, DPut.t (k := kI y) hf7 hq hlt, ?_⟩
            refine ⟨_, _, rfl, upd_same, ?_, fun b u nb e => by rw [upd_ne nb]; exact k7 b u nb e⟩
            have hp := hm7.put y (v := .bl true) (b := ()) rfl
            rw [put_new hnk] at hp
            have e8 : (fnd ns i ++ ((frn ns (i + 1)).take (j + 1)).map (·.1)).map (fun x => (x, ())) = (fnd ns i ++ ((frn ns (i + 1)).take j).map (·.1)).map (fun x => (x, ())) ++ [(y, ())] := by
              rw [List.take_add_one, hy]
              simp only [List.map_append, List.append_assoc, Option.toList, List.map_cons, List.map_nil]
            rw [e8]
            exact hp
          · rintro σ H7 ⟨x4', kf', rfl, hf7, hm7, k7⟩
            have hl6 := hm6.len
            rw [hl6, List.take_length, ← fnd_succ] at hm7
            refine ⟨by omega, mo, T, fa, D, od2, kf', kv', _, _, rfl, hf7, hm7, k7 _ _ nfD.symm hD6, ?_, hfM, hf0, fun u e => ⟨kf, by rw [hfa2] at e; exact (Option.some.inj e).symm⟩, fun b u nb e => k7 b u nb (k6 b u e)⟩
            exact hm6.imp fun v b r => r.mono (fun b xs e => k7 _ _ (ne_of hfa6 e fun z => nomatch z).symm e) fun b xs h => by
              rcases h with (h | ⟨ob, h⟩) | h
              · exact .inl (.inl (k7 _ _ (ne_of hfa6 h fun z => nomatch z).symm h))
              · exact .inl (.inr ⟨ob, k7 _ _ (ne_of hfa6 h fun z => nomatch z).symm h⟩)
              · exact .inr h
      · rw [hb]
        have hkr : kr = [] := by simpa using hb
        rw [hkr] at hlr
        have e0 : frn ns i = [] := List.length_eq_zero_iff.mp hlr.symm
        have hin : i = n := by
          rcases Nat.lt_or_ge i n with z | z
          · exact absurd e0 (hF.more i z)
          · omega
        exact iteF ⟨hin, kp, fa, hfM, hf0, hfw, hkeep⟩
    · intro Hw nx mo
      have tM : t ∉ M := fun hb => (hMH t hb _ hT).nt _ rfl
      have hTw : Hw t = some (.tup (ns.map V.int)) := nx t _ tM (fun φ z => nomatch z) hT
      have hk1 : (kI ns).map kV = ns.map V.int := kI_kV ns
      refine fun fa hfa => ⟨_, rfl, t, kI ns, rfl, by rw [hk1, upd_ne (ne_of_none hTw hfa)]; exact hTw, upd_same, ?_⟩
      have hT1 : ∀ kv, (upd (upd Hw fa (.dT [])) fa (.dT kv)) t = some (.tup (ns.map V.int)) := fun kv => by rw [upd_upd, upd_ne (ne_of_none hTw hfa)]; exact hTw
      have hfa1 : (upd (upd Hw fa (.dT [])) fa (.dT [(kI ns, .bl true)])) fa = some (.dT [(kI ns, .bl true)]) := upd_same
      have keep1 : ∀ b o, b ≠ fa → Hw b = some o → (upd (upd Hw fa (.dT [])) fa (.dT [(kI ns, .bl true)])) b = some o := fun b o nb e => by
        rw [upd_ne nb, upd_ne nb]
        exact e
      have hT2 := hT1 [(kI ns, .bl true)]
      generalize upd (upd Hw fa (.dT [])) fa (.dT [(kI ns, .bl true)]) = H1 at hT2 hfa1 keep1 ⊢
      refine fun pf hpf => ⟨_, rfl, t, kI ns, rfl, by rw [hk1, upd_ne (ne_of_none hT2 hpf)]; exact hT2, upd_same, ?_⟩
      refine ⟨pf, _, upd_same, True.intro, fun od => ?_⟩
      have nfp : fa ≠ pf := ne_of_none hfa1 hpf
      refine ⟨Nat.zero_le _, mo, t, fa, pf, od, _, _, none, none, rfl, by rw [upd_ne nfp, upd_ne nfp, upd_ne nfp]; exact hfa1, ?_, upd_same, ?_, fun hb => ?_, fun u e => ?_, fun u e => ?_, fun b o nb e => ?_⟩
      · exact Dm.mt.put ns rfl
      · exact Dm.mt.put ns rfl
      · obtain ⟨o, _, e⟩ := mo fa hb
        rw [hfa] at e; cases e
      · cases u with
        | ext φ => exact ⟨φ, rfl⟩
        | _ =>
          have e2 := nx fa _ (fun hb => by
            obtain ⟨o, _, e⟩ := mo fa hb
            rw [hfa] at e; cases e) (by intro φ z; cases z) e
          rw [hfa] at e2; cases e2
      · rw [hfa] at e; cases e
      · have e1 := keep1 b o nb e
        have nb2 : b ≠ pf := ne_of_none e1 hpf
        rw [upd_ne nb2, upd_ne nb2, upd_ne nb2]
        exact e1
end
end Hd
set_option maxHeartbeats 4000000
/-! sorted(xs), a list of tuples of ints, however long. -/
namespace Hd
open PySem PySem.Spec PyProof.Rows L2
def stD0 (ns : Stn) : PyData := .tuple (ns.map .int)
def stLe : Stn → Stn → Bool := PySem.W.dataLe false stD0
def hrLe : Hrow → Hrow → Bool := fun p q => stLe p.2 q.2
theorem toks_in : ∀ (xs ys : List Int) (r r' : List (Int ⊕ List Nat)), PySem.W.keyToksAll (xs.map .int) ++ r = PySem.W.keyToksAll (ys.map .int) ++ r' → xs = ys ∧ r = r'
  | [], [], r, r', e => ⟨rfl, by simpa [PySem.W.keyToksAll] using e⟩
  | [], y :: ys, r, r', e => by simp [PySem.W.keyToksAll] at e
  | x :: xs, [], r, r', e => by simp [PySem.W.keyToksAll] at e
  | x :: xs, y :: ys, r, r', e => by
    simp only [List.map_cons, PySem.W.keyToksAll, PySem.W.keyToks, List.cons_append, List.nil_append, List.cons.injEq, true_and, Sum.inl.injEq] at e
    obtain ⟨a, b⟩ := toks_in xs ys r r' e.2
    exact ⟨by rw [e.1, a], b⟩
theorem stLe_total : PySem.W.TotalLe stLe := PySem.W.sortLe_total _ false _
theorem stLe_anti {x y : Stn} (h1 : stLe x y = true) (h2 : stLe y x = true) : x = y := by
  have e : PySem.W.keyToks (stD0 x) = PySem.W.keyToks (stD0 y) := by
    refine (listOrd itemOrd).total _ _ ?_ ?_
    · have z : (!PySem.W.dataLt (stD0 y) (stD0 x)) = true := h1
      have z2 : (!PySem.W.dataLt (stD0 x) (stD0 y)) = true := h2
      simpa [PySem.W.dataLt] using z2
    · have z : (!PySem.W.dataLt (stD0 y) (stD0 x)) = true := h1
      simpa [PySem.W.dataLt] using z
  unfold stD0 at e
  simp only [PySem.W.keyToks, List.cons.injEq, true_and] at e
  exact (toks_in x y [] [] (by simpa using e)).1
theorem vrefs {α : Type} (f : α → Addr) : ∀ xs : List α, Vals (xs.map fun x => V.ref (f x)) (xs.map fun x => Value.ref (f x))
  | [] => .nil
  | x :: xs => .cons rfl (vrefs f xs)
theorem vrefs_of {α : Type} (f : α → Addr) : ∀ {xs : List α} {us : List Value}, Vals (xs.map fun x => V.ref (f x)) us → us = xs.map fun x => Value.ref (f x)
  | [], _, .nil => rfl
  | x :: xs, _, .cons r t => by
    cases r
    rw [vrefs_of f t]
    rfl
theorem erefs {α : Type} (f : α → Addr) : ∀ (xs : List α) {R : Value → α → Prop}, (∀ x ∈ xs, R (.ref (f x)) x) → PySem.W.EachIs R (xs.map fun x => Value.ref (f x)) xs
  | [], _, _ => .nil
  | x :: xs, _, h => .cons (h x List.mem_cons_self) (erefs f xs fun y hy => h y (List.mem_cons_of_mem _ hy))
theorem erefs_of {α : Type} (f : α → Addr) : ∀ {us : List Value} {xs : List α}, PySem.W.EachIs (fun v x => v = Value.ref (f x)) us xs → us = xs.map fun x => Value.ref (f x)
  | _, _, .nil => rfl
  | _, _, .cons e t => by rw [e, erefs_of f t]; rfl
/-- sorted(xs), the list at l of tuples -/
def rSortHs (K : PySem.W.Frag) : List V → Hp → VK → Prop := fun vs H Q => ∃ (l : Addr) (hs : List Hrow), vs = [V.ref l] ∧ SqL K H l (hs.map fun x => V.ref x.1) ∧ (∀ x ∈ hs, SqT K H x.1 (x.2.map V.int) ∧ x.2 ≠ []) ∧
  ∀ p, H p = none → Q (.ref p) (upd H p (.lst ((hs.mergeSort hrLe).map fun x => V.ref x.1)))
theorem cr_sortHs {X : Cx} (hu : X.A.units + 64 < cLine) : CallR X (.builtin "sorted") (rSortHs X.K) := by
  intro pins s σ H vs us Q I r h
  obtain ⟨l, xs, rfl, hl, hx, q⟩ := h
  rw [Vals.ref1 r]
  obtain ⟨its, rv, pl, hz⟩ := I.list hl
  have ev := vrefs_of (fun x : Hrow => x.1) rv
  subst ev
  have hlen : xs.length ≤ sizeLine := by rw [List.length_map] at hz; exact hz
  have rd : ∀ x ∈ xs, Reads s.heap (.ref x.1) (stD0 x.2) [] := fun x m => by
    obtain ⟨vs, rv, ⟨o, g, c, n, d⟩, _⟩ := I.tuple (hx x m).1
    exact .tuple g c d (by simpa using reads_ints (h := s.heap) rv.ints)
  refine PySem.W.sorted_data (R := fun v x => v = Value.ref x.1) (enc := fun x : Hrow => stD0 x.2) (bs := xs) pl.isList (erefs _ xs fun _ _ => rfl) (erefs _ xs fun x m => ⟨[], rd x m⟩) (PySem.W.AllAlike.of fun x y => by
      unfold stD0
      have e1 := PySem.W.alike_ints x.2 y.2
      simp [PySem.W.alike, e1]) (.inl fun d hd => by
      obtain ⟨x, m, rfl⟩ := List.mem_map.mp hd
      cases e : x.2 with
      | nil => exact absurd e (hx x m).2
      | cons y r => exact ⟨_, _, rfl⟩) hlen (fun x m => by
      have e1 := deep_ints x.2
      unfold stD0
      simp only [PyData.depth]
      omega) fun out hol e => ?_
  obtain ⟨n, hn⟩ := sortedAll_at s.heap (xs.map fun x => Value.ref x.1) out.toArray
  have eo := erefs_of (fun x : Hrow => x.1) e
  refine ⟨.ref (s.heap.objs.size + 1), upd H (s.heap.objs.size + 1) (.lst ((xs.mergeSort hrLe).map fun x => V.ref x.1)), I.laid (t' := s.toks) (fun b u e => sortedAll_old e) (Nat.le_succ _) ⟨?_, out, n, ?_, hn⟩, rfl, q _ (I.hok.fresh (Nat.le_succ _))⟩
  · rw [List.length_map, List.length_mergeSort]
    exact hlen
  · rw [eo]
    exact vrefs _ _
theorem map_sortH (hs : List Hrow) : (hs.mergeSort hrLe).map (·.2) = (hs.map (·.2)).mergeSort stLe :=
  List.map_mergeSort (r := hrLe) (s := stLe) (f := fun p : Hrow => p.2) (fun _ _ _ _ => rfl)
/-- what is no piece of another's keeps: what is known, but for what is told by a word -/
theorem NX.tup {K : PySem.W.Frag} {H H' : Hp} {b : Addr} {xs : List V} (n : NX H H') (h : SqT K H b xs) : SqT K H' b xs := by
  rcases h with (h | ⟨o, h⟩) | h
  · exact .inl (.inl (n _ _ (fun _ z => nomatch z) h))
  · exact .inl (.inr ⟨o, n _ _ (fun _ z => nomatch z) h⟩)
  · exact .inr h
theorem NX.lst {H H' : Hp} {b : Addr} {xs : List V} (n : NX H H') (h : H b = some (.lst xs)) : H' b = some (.lst xs) := n _ _ (fun _ z => nomatch z) h
theorem NX.of {H H' : Hp} (s : Same H H') : NX H H' := fun b o _ e => s b o e
theorem HpL.nx {K : PySem.W.Frag} {H H' : Hp} {t : Addr} {hs : List Hrow} (e : NX H H') (h : HpL K H t hs) : HpL K H' t hs := ⟨e.lst h.ls, fun p hp => e.tup (h.st p hp)⟩
end Hd
set_option maxHeartbeats 8000000
/-! Small heaps: what comes to be of them. -/
namespace Hd
open PySem PySem.Spec PyProof.Rows L2
structure Tsm (mg : Str → Option Value) : Prop extends Tz mg where
  msh : ∃ t, mg "MOST_SMALL_HEAPS" = some (.int 4 t)
  gss : ∃ t, mg "GREATEST_SMALL_SUM" = some (.int 40 t)
/-- no more than four heaps, of forty at most -/
def smlB (ns : Stn) : Bool := decide (ns.length ≤ 4) && decide (ns.sum ≤ 40)
theorem all_nn {ns : Stn} (h : (ns.map (inR 0 (10 ^ 30))).all id = true) : NN ns := by
  intro i
  by_cases hi : i < ns.length
  · have := List.all_eq_true.mp h (inR 0 (10 ^ 30) ns[i]) (List.mem_map.mpr ⟨ns[i], List.getElem_mem hi, rfl⟩)
    unfold inR at this
    simp only [id, Bool.and_eq_true, decide_eq_true_eq] at this
    rw [List.getD_eq_getElem?_getD, List.getElem?_eq_getElem hi]
    exact this.1
  · rw [List.getD_eq_getElem?_getD, List.getElem?_eq_none (by omega)]
    exact Int.le_refl 0
theorem hps_bx {ns : Stn} (h : hpsB ns = true) : Bx ns.length (ns.sum.toNat : Int) ns ∧ 0 < ns.sum := by
  unfold hpsB at h
  simp only [Bool.and_eq_true, decide_eq_true_eq] at h
  exact ⟨⟨rfl, all_nn h.2.1, by omega⟩, h.2.2⟩
theorem sml_room {ns : Stn} (h : hpsB ns = true) (hs : smlB ns = true) : (ns.sum.toNat + 1) ^ ns.length < sizeLine ∧ ns.length ≤ 4 ∧ 2 ≤ ns.length := by
  obtain ⟨h1, h2⟩ := hps_bx h
  unfold smlB at hs
  simp only [Bool.and_eq_true, decide_eq_true_eq] at hs
  have l2 := (hps_len h).1
  refine ⟨?_, hs.1, l2⟩
  have a1 : (ns.sum.toNat + 1) ^ ns.length ≤ 41 ^ ns.length := Nat.pow_le_pow_left (by omega) _
  have a2 : 41 ^ ns.length ≤ 41 ^ 4 := Nat.pow_le_pow_right (by decide) hs.1
  rw [sizeLine_eq]
  have a3 : 41 ^ 4 < 16777216 := by decide
  omega
theorem dpall_intsR {K : PySem.W.Frag} {H : Hp} : ∀ {xs : List V} {ns : Stn}, DpAll K H xs (ns.map PyData.int) → xs = ns.map V.int
  | [], [], _ => rfl
  | [], _ :: _, h => nomatch h
  | _ :: _, [], h => nomatch h
  | x :: xs, n :: ns, h => by
    rw [List.map_cons] at h
    cases h with
    | cons a b =>
      cases a
      rw [List.map_cons, ← dpall_intsR b]
theorem dp_dI {K : PySem.W.Frag} {H : Hp} {v : V} {ns : Stn} (h : Dp K H v (dI ns)) : ∃ t, v = .ref t ∧ SqT K H t (ns.map V.int) := by
  unfold dI at h
  generalize e : PyData.tuple (ns.map PyData.int) = d at h
  cases h <;> first | cases e | skip
  rename_i t xs hS hA
  refine ⟨t, rfl, ?_⟩
  rw [← dpall_intsR hA]
  exact hS
/-- nothing is told of it, but by a word -/
def Nu (H : Hp) (l : Addr) : Prop := ∀ u, H l = some u → ∃ φ, u = .ext φ
/-- a walk inside a comprehension, whatever its body -/
theorem in_it {J : L2.It} {n : Nat} {G : Hp → Prop} {Y : Nat → Hp → V → Hp → Prop} (w : Walk J n G Y) {H0 : Hp} {Qd : Hp → Prop} {body : V → Hp → (Hp → Prop) → Prop} (Pv : Nat → Hp → Prop) (h0 : Pv 0 H0) (hG : ∀ i H, i ≤ n → Pv i H → G H)
    (hs : ∀ i x H H', i < n → Pv i H → Y i H x H' → body x H' (Pv (i + 1))) (hd : ∀ H, Pv n H → Qd H) :
    ∃ W : Nat → Nat → Hp → Prop, (∃ m, W 0 m H0) ∧ ∀ i m H, W i m H → (J.stop i H ∧ Qd H) ∨ (J.go i H ∧ ∃ Nx : Hp → Prop, (∀ H', Nx H' → ∃ m', m' < m ∧ W (i + 1) m' H') ∧ ∀ x H', J.yld i H x H' → body x H' Nx) := by
  refine ⟨fun i m H => m + i = n ∧ Pv i H, ⟨n, rfl, h0⟩, ?_⟩
  rintro i m H ⟨e, p⟩
  by_cases hlt : i < n
  · exact .inr ⟨w.goes i H hlt (hG i H (by omega) p), Pv (i + 1), fun H' p' => ⟨m - 1, by omega, by omega, p'⟩, fun x H' y => hs i x H H' hlt p (w.yields i H x H' hlt (hG i H (by omega) p) y)⟩
  · have e2 : i = n := by omega
    subst e2
    exact .inl ⟨w.stops H (hG i H (Nat.le_refl _) p), hd H p⟩
/-- what the generator leaves, seen by the one that walks it -/
theorem nx_turn {H1 H3 Hw Hi H4 : Hp} {fa : Addr} (n3 : NX H1 H3) (nw : NX H3 Hw) (hf0 : ∀ u, H1 fa = some u → ∃ φ, u = .ext φ) (hkeep : ∀ b o, b ≠ fa → Hw b = some o → Hi b = some o) (ni : NX Hi H4) : NX H1 H4 := fun b o no e =>
  ni b o no (hkeep b o (fun z => by
    subst z
    obtain ⟨φ, z⟩ := hf0 o e
    exact no φ z) (nw b o no (n3 b o no e)))
theorem tup_turn {H3 Hw Hi H4 : Hp} {fa b : Addr} {xs : List V} (nw : NX H3 Hw) (hfw : ∀ u, Hw fa = some u → ∃ kv, u = .dT kv) (hkeep : ∀ b o, b ≠ fa → Hw b = some o → Hi b = some o) (ni : NX Hi H4) (e : H3 b = some (.tup xs)) : H4 b = some (.tup xs) :=
  ni b _ (by intro φ z; cases z) (hkeep b _ (fun z => by
    subst z
    obtain ⟨kv, z⟩ := hfw _ (nw b _ (by intro φ z; cases z) e)
    cases z) (nw b _ (by intro φ z; cases z) e))
theorem lst_turn {M : List Addr} {H3 Hw Hi H4 : Hp} {fa b : Addr} {o : HO} (no : ∀ φ, o ≠ .ext φ) (hb : b ∈ M) (hfM : fa ∉ M) (nw : NX H3 Hw) (hkeep : ∀ b o, b ≠ fa → Hw b = some o → Hi b = some o) (ni : NX Hi H4) (e : H3 b = some o) : H4 b = some o :=
  ni b _ no (hkeep b _ (fun z => hfM (z ▸ hb)) (nw b _ no e))
def spChkSmall (K : PySem.W.Frag) (C G : Addr) : Sp := fun vs H Q E => ∃ (v : V) (d : PyData), vs = [v] ∧ Dp K H v d ∧ (hpsD d = false → ∀ H', Same H H' → E (.ref C) none H') ∧
  ∀ ns, d = dI ns → hpsB ns = true → (smlB ns = true → ∀ H', Same H H' → Q .non H') ∧ (smlB ns = false → ∀ H', Same H H' → E (.ref G) none H')
/-- what the fronts ahead of turn i hold -/
def upto (ns : Stn) (i : Nat) : List Stn := (List.range i).flatMap fun j => (frn ns j).map (·.1)
theorem upto_succ (ns : Stn) (i : Nat) : upto ns (i + 1) = upto ns i ++ (frn ns i).map (·.1) := by
  unfold upto
  rw [List.range_succ, List.flatMap_append]
  simp
theorem upto_fnd (ns : Stn) : ∀ i, upto ns (i + 1) = fnd ns i
  | 0 => by simp [upto, fnd, frn, stA]
  | i + 1 => by rw [upto_succ, upto_fnd ns i, fnd_succ]
theorem upto_all {ns : Stn} {n : Nat} (h : Frs ns n) : upto ns n = fnd ns n := by
  cases n with
  | zero =>
    have := h.last
    simp [frn, stA] at this
  | succ i => rw [upto_fnd, fnd_succ, h.last]; simp
theorem upto_short {L S : Nat} {ns : Stn} (hB : Bx L (S : Int) ns) (i : Nat) : (upto ns i).length ≤ (S + 1) ^ L := by
  cases i with
  | zero => simp [upto]
  | succ i =>
    rw [upto_fnd]
    exact few_of (fnd_nodup ns i) (fnd_bx hB i)
def spReach (K : PySem.W.Frag) (C G : Addr) : Sp := fun vs H Q E => ∃ (v : V) (d : PyData), vs = [v] ∧ Dp K H v d ∧ (hpsD d = false → ∀ H', Same H H' → E (.ref C) none H') ∧
  ∀ ns, d = dI ns → hpsB ns = true → (smlB ns = false → ∀ H', Same H H' → E (.ref G) none H') ∧
    (smlB ns = true → (∃ t, v = .ref t ∧ H t = some (.tup (ns.map V.int))) ∧ ∀ n, Frs ns n → ∀ (l : Addr) (hs : List Hrow) (H' : Hp), NX H H' → Nu H l → H' l = some (.lst (hs.map fun p => V.ref p.1)) → (∀ p ∈ hs, H' p.1 = some (.tup (p.2.map V.int))) → hs.map (·.2) = (fnd ns n).mergeSort stLe → Q (.ref l) H')
/-- .. of good heaps -/
def spReachC (K : PySem.W.Frag) : Sp := fun vs H Q _ => ∃ (t : Addr) (ns : Stn), vs = [.ref t] ∧ H t = some (.tup (ns.map V.int)) ∧ hpsB ns = true ∧ smlB ns = true ∧
  ∀ n, Frs ns n → ∀ (l : Addr) (hs : List Hrow) (H' : Hp), NX H H' → Nu H l → H' l = some (.lst (hs.map fun p => V.ref p.1)) → (∀ p ∈ hs, H' p.1 = some (.tup (p.2.map V.int))) → hs.map (·.2) = (fnd ns n).mergeSort stLe → Q (.ref l) H'
theorem hpsD_of {ns : Stn} (h : hpsB ns = true) : hpsD (dI ns) = true := by rw [hpsD_dI]; exact h
theorem dI_inj {a b : Stn} (h : dI a = dI b) : a = b := by
  unfold dI at h
  have := PyData.tuple.inj h
  clear h
  induction a generalizing b with
  | nil =>
    cases b with
    | nil => rfl
    | cons => simp at this
  | cons x a ih =>
    cases b with
    | nil => simp at this
    | cons y b =>
      simp only [List.map_cons, List.cons.injEq, PyData.int.injEq] at this
      rw [this.1, ih this.2]
theorem reach_good {K : PySem.W.Frag} {C G : Addr} {vs : List V} {H : Hp} {Q : VK} {E : XK} (h : spReachC K vs H Q E) : spReach K C G vs H Q E0 := by
  obtain ⟨t, ns, rfl, hT, hb, hs, k⟩ := h
  refine ⟨_, _, rfl, dp_I (SqT.of hT), fun z => (by rw [hpsD_of hb] at z; cases z), fun ns' e hb' => ?_⟩
  have e := dI_inj e
  subst e
  exact ⟨fun z => (by rw [hs] at z; cases z), fun _ => ⟨⟨t, rfl, hT⟩, k⟩⟩
section
variable {P : Program} {w : World} {K : PySem.W.Frag} {mg : Str → Option Value} {base : Heap}
abbrev s_check_small : Stmt := top 43
theorem sc_check_small : FnScope ["heaps"] ["heaps"] (defScope s_check_small) := ⟨rfl, rfl, rfl, by decide +kernel, rfl, by decide +kernel, by decide +kernel⟩
theorem ok_check_small {f C G : Addr} {fd : FuncData} (F : Fun K "check_small" "check_small" s_check_small f fd) (T : Tsm mg) (BG : NilX P K mg "TooGreat" G) (C_check_heaps : Cal P w K mg base (L2N.CX P w) 3 "check_heaps" ["heaps"] (spChkHeapsD K C)) : FnOk P w K mg base (L2N.CX P w) 4 f fd ["heaps"] (spChkSmall K C G) := by
  refine okN F sc_check_small (fun vs H Q E h => ?_) (fun cdv A outer s H vs Q E hr h => ?_)
  · obtain ⟨v, d, rfl, _⟩ := h
    rfl
  · obtain ⟨v, d, rfl, hd, k1, k2⟩ := h
    refine ⟨_, (pss_cons (ps_expr (pe_cal C_check_heaps hr rfl (L2N.passes_call (L2N.takes_of rfl rfl rfl rfl) (fun _ _ _ _ h => h)) (pa_cons (pv 0) pa_nil)))
      (pss_one (ps_if (PW.pt (pw_or (pt_cmpR op_gt (pe_callB call_len_seq (by rfl) T.len PySem.boot_len (pa_cons (pv 0) pa_nil)) (pe_gint rfl T.msh) (nomark _)) (pw_or1 (pt_cmpR op_gt (pe_callB (cr_sumT rfl) (by rfl) T.sum (by decide +kernel) (pa_cons (pv 0) pa_nil)) (pe_gint rfl T.gss) (nomark _))))) (pss_one (L2N.ps_raise rfl (L2N.takes_of rfl rfl rfl rfl) (pmkN_nil BG (hr.mono (by decide : 1 ≤ 3)) rfl))) pss_nil))), ?_⟩
    refine ⟨_, rfl, v, d, rfl, hd, fun hg H1 s1 => ?_, fun hg H1 s1 => k1 hg H1 s1⟩
    obtain ⟨ns, rfl, hb⟩ := hpsD_eq hg
    obtain ⟨t, rfl, hS⟩ := dp_dI hd
    obtain ⟨k2, k3⟩ := k2 ns rfl hb
    have S1 := Same.tup s1 hS
    have hsz : ((ns.map V.int).length : Int) = (ns.length : Int) := by rw [List.length_map]
    refine ⟨_, rfl, t, _, rfl, .inr S1, _, _, rfl, rfl, _, rfl, ?_⟩
    unfold smlB at k2 k3
    rw [hsz]
    cases h4 : decide (ns.length ≤ 4) with
    | false =>
      rw [decide_eq_true (show (4 : Int) < (ns.length : Int) by have := of_decide_eq_false h4; omega)]
      exact iteT (k3 (by rw [h4]; rfl) _ s1)
    | true =>
      rw [decide_eq_false (show ¬ (4 : Int) < (ns.length : Int) by have := of_decide_eq_true h4; omega)]
      refine iteF ⟨_, rfl, t, _, rfl, S1, _, _, rfl, rfl, _, rfl, ?_⟩
      cases h40 : decide (ns.sum ≤ 40) with
      | false =>
        rw [decide_eq_true (show (40 : Int) < ns.sum by have := of_decide_eq_false h40; omega)]
        exact iteT (k3 (by rw [h4, h40]; rfl) _ s1)
      | true =>
        rw [decide_eq_false (show ¬ (40 : Int) < ns.sum by have := of_decide_eq_true h40; omega)]
        exact iteF (k2 (by rw [h4, h40]; rfl) _ s1)
end
end Hd
set_option maxHeartbeats 4000000
/-! Games told back from their ends: by rounds as the program does it, by sizes as the law does it. Mathematics alone. -/
namespace Hd.Gm
variable {α : Type} (z : α → Bool) (nx : α → List α)
/-- what a round decides: the length of the game at x, told after s rounds -/
def Lr : Nat → α → Option Nat
  | 0, x => if z x = true then some 0 else none
  | s + 1, x => match Lr s x with
    | some k => some k
    | none => if (s + 1) % 2 = 1 then (if (nx x).any (fun y => decide (Lr s y = some s)) = true then some (s + 1) else none) else (if (nx x).all (fun y => (Lr s y).isSome) = true then some (s + 1) else none)
/-- the law's size of a stand, its next stands' sizes known in part -/
def szL (es : List (Option Nat)) : Nat :=
  match (es.filterMap id).filter (fun e => decide (e % 2 = 0)) with
  | e :: r => r.foldl min e + 1
  | [] => if es.all Option.isSome = true then (match es.filterMap id with
      | e :: r => r.foldl max e + 1
      | [] => 0) else 0
def Cr : Nat → α → Option Nat
  | 0, _ => none
  | s + 1, x => match Cr s x with
    | some k => some k
    | none => if szL ((nx x).map fun y => if z y = true then some 0 else Cr s y) = s + 1 then some (s + 1) else none
variable {z nx}
theorem Lr_le : ∀ {s : Nat} {x : α} {k : Nat}, Lr z nx s x = some k → k ≤ s
  | 0, x, k, h => by
    unfold Lr at h
    split at h
    · cases h; exact Nat.le_refl _
    · cases h
  | s + 1, x, k, h => by
    unfold Lr at h
    split at h
    · rename_i e
      cases h
      exact Nat.le_succ_of_le (Lr_le e)
    · split at h <;> split at h <;> cases h <;> exact Nat.le_refl _
theorem Lr_next {s : Nat} {x : α} {k : Nat} (h : Lr z nx s x = some k) : Lr z nx (s + 1) x = some k := by
  show (match Lr z nx s x with | some k => some k | none => _) = _
  rw [h]
theorem Lr_mono {s t : Nat} {x : α} {k : Nat} (h : Lr z nx s x = some k) (hst : s ≤ t) : Lr z nx t x = some k := by
  induction t with
  | zero =>
    have : s = 0 := by omega
    subst this
    exact h
  | succ t ih =>
    by_cases e : s = t + 1
    · subst e; exact h
    · exact Lr_next (ih (by omega))
/-- decided in its own round, and not before -/
theorem Lr_at : ∀ {s : Nat} {x : α} {k : Nat}, Lr z nx s x = some k → Lr z nx k x = some k
  | 0, x, k, h => by
    have := Lr_le h
    have e : k = 0 := by omega
    subst e
    exact h
  | s + 1, x, k, h => by
    by_cases e : k = s + 1
    · subst e; exact h
    · have hk := Lr_le h
      cases q : Lr z nx s x with
      | some j =>
        have := Lr_next q
        rw [h] at this
        cases this
        exact Lr_at q
      | none =>
        exfalso
        unfold Lr at h
        rw [q] at h
        simp only at h
        split at h <;> split at h <;> cases h <;> exact e rfl
theorem Lr_before {s t : Nat} {x : α} {k : Nat} (h : Lr z nx s x = some k) (ht : t < k) : Lr z nx t x = none := by
  cases q : Lr z nx t x with
  | none => rfl
  | some j =>
    have h1 := Lr_le q
    have h2 := Lr_mono q (Nat.le_of_lt ht)
    rw [Lr_at h] at h2
    cases h2
    omega
/-- an even next stand decides x in the round behind it -/
theorem Lr_odd {s e : Nat} {x y : α} (hy : y ∈ nx x) (h : Lr z nx s y = some e) (he : e % 2 = 0) : ∃ k, k ≤ e + 1 ∧ Lr z nx (e + 1) x = some k := by
  cases q : Lr z nx e x with
  | some k => exact ⟨k, Nat.le_succ_of_le (Lr_le q), Lr_next q⟩
  | none =>
    refine ⟨e + 1, Nat.le_refl _, ?_⟩
    show (match Lr z nx e x with | some k => some k | none => if (e + 1) % 2 = 1 then (if (nx x).any (fun y => decide (Lr z nx e y = some e)) = true then some (e + 1) else none) else _) = _
    rw [q]
    show (if (e + 1) % 2 = 1 then _ else _) = _
    rw [if_pos (by omega), if_pos (List.any_eq_true.mpr ⟨y, hy, decide_eq_true (Lr_at h)⟩)]
theorem Lr_even {s : Nat} {x : α} (hs : s % 2 = 1) (h : ∀ y ∈ nx x, (Lr z nx s y).isSome = true) : ∃ k, k ≤ s + 1 ∧ Lr z nx (s + 1) x = some k := by
  cases q : Lr z nx s x with
  | some k => exact ⟨k, Nat.le_succ_of_le (Lr_le q), Lr_next q⟩
  | none =>
    refine ⟨s + 1, Nat.le_refl _, ?_⟩
    show (match Lr z nx s x with | some k => some k | none => if (s + 1) % 2 = 1 then _ else (if (nx x).all (fun y => (Lr z nx s y).isSome) = true then some (s + 1) else none)) = _
    rw [q]
    show (if (s + 1) % 2 = 1 then _ else _) = _
    rw [if_neg (by omega), if_pos (List.all_eq_true.mpr h)]
/-! ### the law's size -/
theorem fold_min_in : ∀ (r : List Nat) (e : Nat), (r.foldl min e = e ∨ r.foldl min e ∈ r) ∧ r.foldl min e ≤ e ∧ ∀ k ∈ r, r.foldl min e ≤ k
  | [], e => ⟨.inl rfl, Nat.le_refl _, fun k hk => nomatch hk⟩
  | a :: r, e => by
    obtain ⟨h1, h2, h3⟩ := fold_min_in r (min e a)
    rw [List.foldl_cons]
    refine ⟨?_, by omega, fun k hk => ?_⟩
    · rcases h1 with h1 | h1
      · rw [h1]
        by_cases c : e ≤ a
        · exact .inl (Nat.min_eq_left c)
        · exact .inr (by rw [Nat.min_eq_right (by omega)]; exact List.mem_cons_self ..)
      · exact .inr (List.mem_cons_of_mem _ h1)
    · rcases List.mem_cons.mp hk with rfl | hk
      · omega
      · exact h3 k hk
theorem fold_max_in : ∀ (r : List Nat) (e : Nat), (r.foldl max e = e ∨ r.foldl max e ∈ r) ∧ e ≤ r.foldl max e ∧ ∀ k ∈ r, k ≤ r.foldl max e
  | [], e => ⟨.inl rfl, Nat.le_refl _, fun k hk => nomatch hk⟩
  | a :: r, e => by
    obtain ⟨h1, h2, h3⟩ := fold_max_in r (max e a)
    rw [List.foldl_cons]
    refine ⟨?_, by omega, fun k hk => ?_⟩
    · rcases h1 with h1 | h1
      · rw [h1]
        by_cases c : a ≤ e
        · exact .inl (Nat.max_eq_left c)
        · exact .inr (by rw [Nat.max_eq_right (by omega)]; exact List.mem_cons_self ..)
      · exact .inr (List.mem_cons_of_mem _ h1)
    · rcases List.mem_cons.mp hk with rfl | hk
      · omega
      · exact h3 k hk
theorem mem_fm {es : List (Option Nat)} {k : Nat} : k ∈ es.filterMap id ↔ some k ∈ es := by
  rw [List.mem_filterMap]
  exact ⟨fun ⟨a, ha, e⟩ => by rw [show a = some k from e] at ha; exact ha, fun h => ⟨some k, h, rfl⟩⟩
/-- there is an even one: the least of them, and one -/
theorem szL_even {es : List (Option Nat)} {m : Nat} (h : some m ∈ es) (hm : m % 2 = 0) : ∃ e, some e ∈ es ∧ e % 2 = 0 ∧ szL es = e + 1 ∧ ∀ k, some k ∈ es → k % 2 = 0 → e ≤ k := by
  have hmem : ∀ k, k ∈ (es.filterMap id).filter (fun e => decide (e % 2 = 0)) ↔ some k ∈ es ∧ k % 2 = 0 := fun k => by
    rw [List.mem_filter, mem_fm, decide_eq_true_eq]
  unfold szL
  cases q : (es.filterMap id).filter (fun e => decide (e % 2 = 0)) with
  | nil =>
    have := (hmem m).mpr ⟨h, hm⟩
    rw [q] at this
    cases this
  | cons e r =>
    rw [q] at hmem
    obtain ⟨h1, h2, h3⟩ := fold_min_in r e
    have hin : r.foldl min e ∈ e :: r := by
      rcases h1 with h1 | h1
      · rw [h1]; exact List.mem_cons_self ..
      · exact List.mem_cons_of_mem _ h1
    obtain ⟨a1, a2⟩ := (hmem _).mp hin
    refine ⟨r.foldl min e, a1, a2, rfl, fun k hk hk2 => ?_⟩
    rcases List.mem_cons.mp ((hmem k).mpr ⟨hk, hk2⟩) with rfl | z
    · exact h2
    · exact h3 k z
/-- there is no even one -/
theorem szL_odd {es : List (Option Nat)} (h : ∀ k, some k ∈ es → k % 2 = 1) (hne : es ≠ []) :
    (es.all Option.isSome = false → szL es = 0) ∧ (es.all Option.isSome = true → ∃ e, some e ∈ es ∧ szL es = e + 1 ∧ ∀ k, some k ∈ es → k ≤ e) := by
  have hw : (es.filterMap id).filter (fun e => decide (e % 2 = 0)) = [] := by
    rw [List.filter_eq_nil_iff]
    intro k hk
    have := h k (mem_fm.mp hk)
    rw [decide_eq_true_eq]
    omega
  unfold szL
  rw [hw]
  refine ⟨fun c => by simp only [c]; rfl, fun c => ?_⟩
  simp only [c, if_true]
  cases q : es.filterMap id with
  | nil =>
    exfalso
    cases es with
    | nil => exact hne rfl
    | cons a r =>
      have ha := List.all_eq_true.mp c a (List.mem_cons_self ..)
      obtain ⟨k, hk⟩ := Option.isSome_iff_exists.mp ha
      have : k ∈ (a :: r).filterMap id := mem_fm.mpr (by rw [← hk]; exact List.mem_cons_self ..)
      rw [q] at this
      cases this
  | cons e r =>
    obtain ⟨h1, h2, h3⟩ := fold_max_in r e
    have hm : ∀ k, k ∈ e :: r ↔ some k ∈ es := fun k => by rw [← q]; exact mem_fm
    refine ⟨r.foldl max e, (hm _).mp ?_, rfl, fun k hk => ?_⟩
    · rcases h1 with h1 | h1
      · rw [h1]; exact List.mem_cons_self ..
      · exact List.mem_cons_of_mem _ h1
    · rcases List.mem_cons.mp ((hm k).mpr hk) with rfl | z
      · exact h2
      · exact h3 k z
/-- THE TWO ARE ONE: after each round the law knows what the program knows -/
theorem Cr_is {P : α → Prop} (hz : ∀ x, P x → z x = false → nx x ≠ []) (hP : ∀ x, P x → z x = false → ∀ y ∈ nx x, z y = false → P y) : ∀ (s : Nat) (x : α), P x → z x = false → Cr z nx s x = Lr z nx s x
  | 0, x, hp, hx => by
    show none = (if z x = true then some 0 else none)
    rw [if_neg (by rw [hx]; exact Bool.false_ne_true)]
  | s + 1, x, hp, hx => by
    have ih := Cr_is hz hP s
    have hE : ((nx x).map fun y => if z y = true then some 0 else Cr z nx s y) = (nx x).map (Lr z nx s) := by
      refine List.map_congr_left fun y hyx => ?_
      cases hy : z y with
      | true =>
        have h0 : Lr z nx 0 y = some 0 := by
          show (if z y = true then some 0 else none) = _
          rw [if_pos hy]
        rw [Lr_mono h0 (Nat.zero_le s)]
        rfl
      | false =>
        rw [← ih y (hP x hp hx y hyx hy) hy]
        rfl
    have hsub : Cr z nx (s + 1) x = (match Cr z nx s x with | some k => some k | none => if szL ((nx x).map (Lr z nx s)) = s + 1 then some (s + 1) else none) := by
      rw [← hE]
      rfl
    rw [hsub, ih x hp hx]
    cases q : Lr z nx s x with
    | some k => exact (Lr_next q).symm
    | none =>
      have hR : Lr z nx (s + 1) x = if (s + 1) % 2 = 1 then (if (nx x).any (fun y => decide (Lr z nx s y = some s)) = true then some (s + 1) else none) else (if (nx x).all (fun y => (Lr z nx s y).isSome) = true then some (s + 1) else none) := by
        show (match Lr z nx s x with | some k => some k | none => _) = _
        rw [q]
      rw [hR]
      show (if szL ((nx x).map (Lr z nx s)) = s + 1 then some (s + 1) else none) = _
      have hne : (nx x).map (Lr z nx s) ≠ [] := by simpa using hz x hp hx
      have hin : ∀ k, some k ∈ (nx x).map (Lr z nx s) ↔ ∃ y ∈ nx x, Lr z nx s y = some k := fun k => List.mem_map
      -- no even one but s itself
      have hev : ∀ k, some k ∈ (nx x).map (Lr z nx s) → k % 2 = 0 → k = s := fun k hk h2 => by
        obtain ⟨y, hy, e⟩ := (hin k).mp hk
        have hks := Lr_le e
        obtain ⟨j, hj, ej⟩ := Lr_odd hy e h2
        by_cases c : k = s
        · exact c
        · have := Lr_mono ej (show k + 1 ≤ s by omega)
          rw [q] at this
          cases this
      have hall : ((nx x).map (Lr z nx s)).all Option.isSome = (nx x).all (fun y => (Lr z nx s y).isSome) := by
        rw [List.all_map]
        rfl
      by_cases hodd : (s + 1) % 2 = 1
      · rw [if_pos hodd]
        by_cases ha : ∃ y ∈ nx x, Lr z nx s y = some s
        · obtain ⟨y, hy, e⟩ := ha
          obtain ⟨m, m1, m2, m3, _⟩ := szL_even ((hin s).mpr ⟨y, hy, e⟩) (by omega)
          rw [hev m m1 m2] at m3
          rw [if_pos m3, if_pos (List.any_eq_true.mpr ⟨y, hy, decide_eq_true e⟩)]
        · have hany : (nx x).any (fun y => decide (Lr z nx s y = some s)) = false := by
            rw [List.any_eq_false]
            intro y hy c
            exact ha ⟨y, hy, of_decide_eq_true c⟩
          have hno : ∀ k, some k ∈ (nx x).map (Lr z nx s) → k % 2 = 1 := fun k hk => by
            by_cases c : k % 2 = 0
            · obtain ⟨y, hy, e⟩ := (hin k).mp hk
              rw [hev k hk c] at e
              exact absurd ⟨y, hy, e⟩ ha
            · omega
          obtain ⟨d1, d2⟩ := szL_odd hno hne
          rw [hany, if_neg Bool.false_ne_true]
          rw [if_neg]
          intro c
          cases b : ((nx x).map (Lr z nx s)).all Option.isSome with
          | false => rw [d1 b] at c; cases c
          | true =>
            obtain ⟨e, e1, e2, _⟩ := d2 b
            have := hno e e1
            omega
      · rw [if_neg hodd]
        have hno : ∀ k, some k ∈ (nx x).map (Lr z nx s) → k % 2 = 1 := fun k hk => by
          by_cases c : k % 2 = 0
          · have := hev k hk c
            omega
          · omega
        obtain ⟨d1, d2⟩ := szL_odd hno hne
        rw [← hall]
        cases b : ((nx x).map (Lr z nx s)).all Option.isSome with
        | false =>
          rw [d1 b, if_neg (by omega), if_neg Bool.false_ne_true]
        | true =>
          obtain ⟨e, e1, e2, e3⟩ := d2 b
          have he1 := hno e e1
          obtain ⟨y0, hy0, ey0⟩ := (hin e).mp e1
          have hes := Lr_le ey0
          have hse : e = s := by
            by_cases c : e = s
            · exact c
            · exfalso
              -- all were known two rounds ago
              have hk : ∀ y ∈ nx x, (Lr z nx e y).isSome = true := fun y hy => by
                have hb := List.all_eq_true.mp b (Lr z nx s y) (List.mem_map.mpr ⟨y, hy, rfl⟩)
                obtain ⟨k, hk⟩ := Option.isSome_iff_exists.mp hb
                have := e3 k ((hin k).mpr ⟨y, hy, hk⟩)
                rw [Lr_mono (Lr_at hk) this]
                rfl
              obtain ⟨j, _, ej⟩ := Lr_even he1 hk
              have := Lr_mono ej (show e + 1 ≤ s by omega)
              rw [q] at this
              cases this
          rw [e2, hse, if_pos rfl, if_pos rfl]
/-! ### when nothing comes any more -/
theorem Lr_end {x : α} (h : z x = true) (s : Nat) : Lr z nx s x = some 0 := by
  have h0 : Lr z nx 0 x = some 0 := by
    show (if z x = true then some 0 else none) = _
    rw [if_pos h]
  exact Lr_mono h0 (Nat.zero_le s)
/-- a round that decides nothing among the stands of P is the last -/
theorem stable {P : α → Prop} (hz : ∀ x, P x → z x = false → nx x ≠ []) (hP : ∀ x, P x → z x = false → ∀ y ∈ nx x, P y) {s : Nat} (h : ∀ x, P x → Lr z nx (s + 1) x = Lr z nx s x) : ∀ (t : Nat), s ≤ t → ∀ x, P x → Lr z nx t x = Lr z nx s x := by
  intro t
  induction t with
  | zero =>
    intro hst x _
    have : s = 0 := by omega
    rw [this]
  | succ t ih =>
    intro hst x hx
    by_cases e0 : s = t + 1
    · rw [e0]
    have hst' : s ≤ t := by omega
    have ih := ih hst'
    cases q : Lr z nx s x with
    | some k => exact Lr_mono q hst
    | none =>
      by_cases e1 : t = s
      · rw [e1, h x hx, q]
      have hx0 : z x = false := by
        cases c : z x with
        | false => rfl
        | true => rw [Lr_end c s] at q; cases q
      cases r : Lr z nx (t + 1) x with
      | none => rfl
      | some k =>
        exfalso
        have qt : Lr z nx t x = none := by rw [ih x hx, q]
        have qs1 : Lr z nx (s + 1) x = none := by rw [h x hx, q]
        have hR : Lr z nx (t + 1) x = if (t + 1) % 2 = 1 then (if (nx x).any (fun y => decide (Lr z nx t y = some t)) = true then some (t + 1) else none) else (if (nx x).all (fun y => (Lr z nx t y).isSome) = true then some (t + 1) else none) := by
          show (match Lr z nx t x with | some k => some k | none => _) = _
          rw [qt]
        rw [hR] at r
        by_cases c : (t + 1) % 2 = 1
        · rw [if_pos c] at r
          cases a : (nx x).any (fun y => decide (Lr z nx t y = some t)) with
          | false => rw [a] at r; cases r
          | true =>
            obtain ⟨y, hy, ey⟩ := List.any_eq_true.mp a
            have ey := of_decide_eq_true ey
            rw [ih y (hP x hx hx0 y hy)] at ey
            have := Lr_le ey
            omega
        · rw [if_neg c] at r
          cases a : (nx x).all (fun y => (Lr z nx t y).isSome) with
          | false => rw [a] at r; cases r
          | true =>
            have hall : ∀ y ∈ nx x, (Lr z nx s y).isSome = true := fun y hy => by
              rw [← ih y (hP x hx hx0 y hy)]
              exact List.all_eq_true.mp a y hy
            -- no even one
            have hno : ∀ y ∈ nx x, ∀ k, Lr z nx s y = some k → k % 2 = 1 := fun y hy k hk => by
              by_cases c2 : k % 2 = 0
              · obtain ⟨j, hj, ej⟩ := Lr_odd hy hk c2
                have := Lr_mono ej (show k + 1 ≤ s + 1 by have := Lr_le hk; omega)
                rw [qs1] at this
                cases this
              · omega
            by_cases c3 : s % 2 = 1
            · obtain ⟨j, _, ej⟩ := Lr_even c3 hall
              rw [qs1] at ej
              cases ej
            · cases s with
              | zero =>
                obtain ⟨y, ys, hys⟩ := List.exists_cons_of_ne_nil (hz x hx hx0)
                have hy : y ∈ nx x := by rw [hys]; exact List.mem_cons_self ..
                obtain ⟨k, hk⟩ := Option.isSome_iff_exists.mp (hall y hy)
                have := hno y hy k hk
                have := Lr_le hk
                omega
              | succ s =>
                have hall' : ∀ y ∈ nx x, (Lr z nx s y).isSome = true := fun y hy => by
                  obtain ⟨k, hk⟩ := Option.isSome_iff_exists.mp (hall y hy)
                  have h1 := hno y hy k hk
                  have h2 := Lr_le hk
                  rw [Lr_mono (Lr_at hk) (show k ≤ s by omega)]
                  rfl
                obtain ⟨j, _, ej⟩ := Lr_even (show s % 2 = 1 by omega) hall'
                rw [q] at ej
                cases ej
/-- how many of D are decided -/
def cnt (z : α → Bool) (nx : α → List α) (D : List α) (s : Nat) : Nat := (D.filter fun x => (Lr z nx s x).isSome).length
theorem filter_len_le {p q : α → Bool} : ∀ (D : List α), (∀ x ∈ D, p x = true → q x = true) → (D.filter p).length ≤ (D.filter q).length ∧ ((D.filter p).length = (D.filter q).length → ∀ x ∈ D, q x = true → p x = true)
  | [], _ => ⟨Nat.le_refl _, fun _ x hx => nomatch hx⟩
  | a :: D, h => by
    obtain ⟨h1, h2⟩ := filter_len_le D fun x hx => h x (List.mem_cons_of_mem _ hx)
    cases hp : p a with
    | true =>
      have hq := h a (List.mem_cons_self ..) hp
      rw [List.filter_cons_of_pos hp, List.filter_cons_of_pos hq, List.length_cons, List.length_cons]
      refine ⟨by omega, fun e x hx hqx => ?_⟩
      rcases List.mem_cons.mp hx with rfl | hx
      · exact hp
      · exact h2 (by omega) x hx hqx
    | false =>
      rw [List.filter_cons_of_neg (by rw [hp]; exact Bool.false_ne_true)]
      cases hq : q a with
      | true =>
        rw [List.filter_cons_of_pos hq, List.length_cons]
        exact ⟨by omega, fun e => by omega⟩
      | false =>
        rw [List.filter_cons_of_neg (by rw [hq]; exact Bool.false_ne_true)]
        refine ⟨h1, fun e x hx hqx => ?_⟩
        rcases List.mem_cons.mp hx with rfl | hx
        · rw [hq] at hqx; cases hqx
        · exact h2 e x hx hqx
theorem cnt_step (D : List α) (s : Nat) : cnt z nx D s ≤ cnt z nx D (s + 1) ∧ (cnt z nx D s = cnt z nx D (s + 1) → ∀ x ∈ D, Lr z nx (s + 1) x = Lr z nx s x) := by
  have hs : ∀ x ∈ D, (Lr z nx s x).isSome = true → (Lr z nx (s + 1) x).isSome = true := fun x _ h => by
    obtain ⟨k, hk⟩ := Option.isSome_iff_exists.mp h
    rw [Lr_next hk]
    rfl
  obtain ⟨h1, h2⟩ := filter_len_le D hs
  refine ⟨h1, fun e x hx => ?_⟩
  cases q : Lr z nx s x with
  | some k => rw [Lr_next q]
  | none =>
    cases r : Lr z nx (s + 1) x with
    | none => rfl
    | some k =>
      have := h2 e x hx (by rw [r]; rfl)
      rw [q] at this
      cases this
/-- there is such a last round, and early -/
theorem last_round (D : List α) : ∃ s, s ≤ D.length ∧ ∀ x ∈ D, Lr z nx (s + 1) x = Lr z nx s x := by
  have key : ∀ n : Nat, (∃ s, s ≤ n ∧ ∀ x ∈ D, Lr z nx (s + 1) x = Lr z nx s x) ∨ n + 1 ≤ cnt z nx D (n + 1) := by
    intro n
    induction n with
    | zero =>
      obtain ⟨h1, h2⟩ := cnt_step (z := z) (nx := nx) D 0
      by_cases e : cnt z nx D 0 = cnt z nx D (0 + 1)
      · exact .inl ⟨0, Nat.le_refl _, h2 e⟩
      · exact .inr (by omega)
    | succ n ih =>
      rcases ih with ⟨s, hs, h⟩ | ih
      · exact .inl ⟨s, by omega, h⟩
      · obtain ⟨h1, h2⟩ := cnt_step (z := z) (nx := nx) D (n + 1)
        by_cases e : cnt z nx D (n + 1) = cnt z nx D (n + 1 + 1)
        · exact .inl ⟨n + 1, Nat.le_refl _, h2 e⟩
        · exact .inr (by omega)
  rcases key D.length with h | h
  · exact h
  · have : cnt z nx D (D.length + 1) ≤ D.length := List.length_filter_le _ _
    omega
end Hd.Gm
set_option maxHeartbeats 4000000
/-! The rounds of the game as the program's dict tells them. -/
namespace Hd
open Gm
def z0 (x : Stn) : Bool := decide ((0 : Int) ∈ x)
abbrev LrS := Lr z0 nxS
/-- what round t decides -/
def decR (R : List Stn) (t : Nat) : List Stn := R.filter fun x => decide (LrS t x = some t)
/-- what is known ahead of round s -/
def mS (R : List Stn) (s : Nat) : List (Stn × Nat) := (List.range s).flatMap fun t => (decR R t).map fun x => (x, t)
theorem any_congr' {α : Type} {p q : α → Bool} : ∀ {l : List α}, (∀ y ∈ l, p y = q y) → l.any p = l.any q
  | [], _ => rfl
  | a :: l, h => by rw [List.any_cons, List.any_cons, h a List.mem_cons_self, any_congr' fun y hy => h y (List.mem_cons_of_mem _ hy)]
theorem all_congr' {α : Type} {p q : α → Bool} : ∀ {l : List α}, (∀ y ∈ l, p y = q y) → l.all p = l.all q
  | [], _ => rfl
  | a :: l, h => by rw [List.all_cons, List.all_cons, h a List.mem_cons_self, all_congr' fun y hy => h y (List.mem_cons_of_mem _ hy)]
theorem mS_succ (R : List Stn) (s : Nat) : mS R (s + 1) = mS R s ++ (decR R s).map fun x => (x, s) := by
  unfold mS
  rw [List.range_succ, List.flatMap_append]
  simp
theorem mem_mS {R : List Stn} {x : Stn} {k : Nat} : ∀ {s : Nat}, (x, k) ∈ mS R s ↔ k < s ∧ x ∈ R ∧ LrS k x = some k
  | 0 => by simp [mS]
  | s + 1 => by
    rw [mS_succ, List.mem_append, mem_mS (s := s)]
    constructor
    · rintro (⟨a, b, c⟩ | h)
      · exact ⟨by omega, b, c⟩
      · obtain ⟨y, hy, e⟩ := List.mem_map.mp h
        cases e
        obtain ⟨h1, h2⟩ := List.mem_filter.mp hy
        exact ⟨by omega, h1, of_decide_eq_true h2⟩
    · rintro ⟨a, b, c⟩
      by_cases e : k = s
      · subst e
        exact .inr (List.mem_map.mpr ⟨x, List.mem_filter.mpr ⟨b, decide_eq_true c⟩, rfl⟩)
      · exact .inl ⟨by omega, b, c⟩
theorem key_mS {R : List Stn} {x : Stn} {s : Nat} : x ∈ (mS R s).map (·.1) ↔ ∃ k, k < s ∧ x ∈ R ∧ LrS k x = some k := by
  constructor
  · intro h
    obtain ⟨⟨y, k⟩, hq, rfl⟩ := List.mem_map.mp h
    exact ⟨k, mem_mS.mp hq⟩
  · rintro ⟨k, h⟩
    exact List.mem_map.mpr ⟨(x, k), mem_mS.mpr h, rfl⟩
theorem Lr_one {x : Stn} {k l : Nat} (h : LrS k x = some k) (h' : LrS l x = some l) : k = l := by
  rcases Nat.le_total k l with e | e
  · have := Lr_mono h e
    exact Option.some.inj (this.symm.trans h')
  · have := Lr_mono h' e
    exact Option.some.inj (h.symm.trans this)
theorem nd_mS {R : List Stn} (nd : R.Nodup) : ∀ s, ((mS R s).map (·.1)).Nodup
  | 0 => by simp [mS]
  | s + 1 => by
    rw [mS_succ, List.map_append, List.nodup_append]
    refine ⟨nd_mS nd s, ?_, ?_⟩
    · rw [List.map_map]
      have : ((fun x : Stn × Nat => x.1) ∘ fun x : Stn => (x, s)) = id := rfl
      rw [this, List.map_id]
      exact nd.filter _
    · intro x hx y hy e
      subst e
      obtain ⟨k, hk, _, hl⟩ := key_mS.mp hx
      rw [List.map_map] at hy
      obtain ⟨y, hy, e⟩ := List.mem_map.mp hy
      have e : y = x := e
      rw [← e] at hl
      have h2 := (List.mem_filter.mp (show y ∈ R.filter (fun x => decide (LrS s x = some s)) from hy)).2
      have := Lr_one hl (of_decide_eq_true h2)
      omega
theorem mS_sub {R : List Stn} {s : Nat} {x : Stn} (h : x ∈ (mS R s).map (·.1)) : x ∈ R := by
  obtain ⟨k, _, hR, _⟩ := key_mS.mp h
  exact hR
theorem mS_le {R : List Stn} (nd : R.Nodup) (s : Nat) : (mS R s).length ≤ R.length := by
  have := nodup_le (nd_mS nd s) fun x hx => mS_sub hx
  rw [List.length_map] at this
  exact this
/-- the dict told ahead of round s + 1: the rounds up to s -/
theorem look_mS {R : List Stn} (nd : R.Nodup) {s : Nat} {x : Stn} (hx : x ∈ R) : lookA (mS R (s + 1)) x = LrS s x := by
  cases h : LrS s x with
  | some k =>
    have hk := Lr_le h
    exact lookA_at (nd_mS nd _) (mem_mS.mpr ⟨by omega, hx, Lr_at h⟩)
  | none =>
    refine lookA_none.mpr fun z => ?_
    obtain ⟨k, hk, _, hl⟩ := key_mS.mp z
    have := Lr_mono hl (show k ≤ s by omega)
    cases h.symm.trans this
theorem in_mS {R : List Stn} (nd : R.Nodup) {s : Nat} {x : Stn} (hx : x ∈ R) : x ∈ (mS R (s + 1)).map (·.1) ↔ (LrS s x).isSome = true := by
  rw [← look_mS nd hx]
  constructor
  · intro h
    cases e : lookA (mS R (s + 1)) x with
    | some k => rfl
    | none => exact absurd h (lookA_none.mp e)
  · intro h
    refine Decidable.byContradiction fun z => ?_
    rw [lookA_none.mpr z] at h
    cases h
/-- the next round -/
theorem decR_next {R : List Stn} (nd : R.Nodup) (cl : ∀ x ∈ R, ∀ y ∈ nxS x, y ∈ R) (s : Nat) (f : Stn → List Stn) (hf : ∀ x ∈ R, f x = nxS x) (g : Stn → Bool)
    (hg : ∀ x, g x = if (s + 1) % 2 = 1 then (f x).any (fun y => decide (lookA (mS R (s + 1)) y = some (s + 1 - 1))) else (f x).all fun y => decide (y ∈ (mS R (s + 1)).map (·.1))) :
    (R.filter fun x => decide (x ∉ (mS R (s + 1)).map (·.1))).filter g = decR R (s + 1) := by
  unfold decR
  rw [List.filter_filter]
  refine List.filter_congr fun x hx => ?_
  have e1 : decide (x ∉ (mS R (s + 1)).map (·.1)) = (LrS s x).isNone := by
    rw [Bool.eq_iff_iff, decide_eq_true_eq, in_mS nd hx]
    cases LrS s x <;> simp
  have e2 : g x = if (s + 1) % 2 = 1 then (nxS x).any (fun y => decide (LrS s y = some s)) else (nxS x).all (fun y => (LrS s y).isSome) := by
    rw [hg, hf x hx]
    by_cases h : (s + 1) % 2 = 1
    · rw [if_pos h, if_pos h]
      refine any_congr' fun y hy => ?_
      rw [look_mS nd (cl x hx y hy)]
      rfl
    · rw [if_neg h, if_neg h]
      refine all_congr' fun y hy => ?_
      rw [Bool.eq_iff_iff, decide_eq_true_eq, in_mS nd (cl x hx y hy)]
  rw [e1, e2]
  show _ = decide ((match Lr z0 nxS s x with | some k => some k | none => _) = some (s + 1))
  cases h : LrS s x with
  | some k =>
    have hk := Lr_le h
    rw [show Lr z0 nxS s x = some k from h]
    simp
    omega
  | none =>
    rw [show Lr z0 nxS s x = none from h]
    by_cases h1 : (s + 1) % 2 = 1
    · simp only [if_pos h1]
      cases (nxS x).any fun y => decide (LrS s y = some s) <;> simp
    · simp only [if_neg h1]
      cases (nxS x).all fun y => (LrS s y).isSome <;> simp
theorem fnd_mono {ns : Stn} {i j : Nat} (h : i ≤ j) {x : Stn} (hx : x ∈ fnd ns i) : x ∈ fnd ns j := by
  induction h with
  | refl => exact hx
  | step _ ih =>
    rw [fnd_succ]
    exact List.mem_append_left _ ih
theorem fnd_front {ns : Stn} {x : Stn} : ∀ {i : Nat}, x ∈ fnd ns i → ∃ j, j ≤ i ∧ x ∈ (frn ns j).map (·.1)
  | 0, h => ⟨0, Nat.le_refl _, by simpa [fnd, frn, stA] using h⟩
  | i + 1, h => by
    rw [fnd_succ] at h
    rcases List.mem_append.mp h with z | z
    · obtain ⟨j, hj, q⟩ := fnd_front z
      exact ⟨j, by omega, q⟩
    · exact ⟨i + 1, Nat.le_refl _, z⟩
/-- one step more leads nowhere else -/
theorem fnd_closed {ns : Stn} {n : Nat} (F : Frs ns n) : ∀ x ∈ fnd ns n, ∀ y ∈ nxS x, y ∈ fnd ns n := by
  intro x hx y hy
  obtain ⟨j, hj, hq⟩ := fnd_front hx
  have hjn : j < n := by
    refine Nat.lt_of_le_of_ne hj fun e => ?_
    subst e
    rw [F.last] at hq
    cases hq
  by_cases hin : y ∈ fnd ns j
  · exact fnd_mono hj hin
  · have h2 := mem_frn.mpr ⟨⟨x, hq, hy⟩, hin⟩
    refine fnd_mono (show j + 1 ≤ n by omega) ?_
    rw [fnd_succ]
    exact List.mem_append_right _ h2
/-- the first round without news -/
structure Lst (R : List Stn) (S : Nat) : Prop where
  last : decR R S = []
  more : ∀ t, t < S → decR R t ≠ []
theorem lst_is {R : List Stn} (nd : R.Nodup) : ∃ S, S ≤ R.length ∧ Lst R S := by
  have ex : ∃ t, t ≤ R.length ∧ decR R t = [] := by
    refine Decidable.byContradiction fun z => ?_
    have grow : ∀ s, s ≤ R.length + 1 → s ≤ (mS R s).length := by
      intro s
      induction s with
      | zero => intro _; omega
      | succ s ih =>
        intro hs
        have h1 := ih (by omega)
        have h2 : decR R s ≠ [] := fun e => z ⟨s, by omega, e⟩
        have h3 := List.length_pos_iff.mpr h2
        rw [mS_succ, List.length_append, List.length_map]
        omega
    have := grow (R.length + 1) (Nat.le_refl _)
    have := mS_le nd (R.length + 1)
    omega
  obtain ⟨t, ht, he⟩ := ex
  obtain ⟨n, h1, h2, h3⟩ := least (p := fun t => decR R t = []) t he
  exact ⟨n, by omega, h2, h3⟩
end Hd
set_option maxHeartbeats 8000000
/-! Words and rules that the later texts share: blocks in blocks, lists of tuples, bools. -/
namespace Hd
open PySem PySem.Spec PyProof.Rows L2
/-- a block within a block -/
theorem relabel_kept {env : Env} : ∀ {names : List (Str × NameKind)} {x : Str}, (names.lookup x = some .cell ∨ names.lookup x = some .free) →
    ((names.map fun (n, k) => if (k == NameKind.free && env.scope.kind == .function && env.kindOf n == some .cell) then (n, NameKind.cell) else (n, k)).lookup x = some .cell ∨
     (names.map fun (n, k) => if (k == NameKind.free && env.scope.kind == .function && env.kindOf n == some .cell) then (n, NameKind.cell) else (n, k)).lookup x = some .free)
  | [], _, h => by simp at h
  | (n, k) :: r, x, h => by
    rw [List.map_cons]
    by_cases hc : (k == NameKind.free && env.scope.kind == .function && env.kindOf n == some .cell) = true
    · simp only [if_pos hc, List.lookup_cons] at h ⊢
      cases hx : x == n with
      | true => simp
      | false =>
        simp only [hx] at h ⊢
        exact relabel_kept h
    · simp only [if_neg hc, List.lookup_cons] at h ⊢
      cases hx : x == n with
      | true =>
        simp only [hx] at h ⊢
        exact h
      | false =>
        simp only [hx] at h ⊢
        exact relabel_kept h
theorem blkOk_in {N : List Str} {sc scope : Scope} {own : List (Str × Nat)} {cl : List (Str × Addr)} {C : Addr} {E : Env} (h : blkC N sc scope own = true) : BlkOk N (compEnvC sc cl C E).scope scope own := by
  obtain ⟨h1, h2, h3, h4, h5⟩ := blkOk_by h
  exact ⟨h1, h2, h3, fun y hy e => relabel_kept (h4 y hy e), h5⟩
theorem cr_anyK {X : Cx} {K : PySem.W.Frag} (e : X.K = K) (hc : X.calm = true) : CallR X (.builtin "any") (rAny K) := by
  subst e
  exact cr_any hc
theorem cr_allK {X : Cx} {K : PySem.W.Frag} (e : X.K = K) (hc : X.calm = true) : CallR X (.builtin "all") (rAll K) := by
  subst e
  exact cr_all hc
theorem op_in_seqK {X : Cx} {K : PySem.W.Frag} (q : X.K = K) : OpR X (compareOp .In) (rIn K false) := by
  subst q
  exact op_in_seq
theorem pi_listK {X : Cx} {K : PySem.W.Frag} {tg e : Expr} {t : TE} (q : X.K = K) (h : PE X e t) : PI X tg e (iList K t) := by
  subst q
  exact pi_list h
theorem flat_ints (ns : List Int) : (ns.map V.int).all flatV = true := by
  rw [List.all_map]
  exact List.all_eq_true.mpr fun x _ => rfl
theorem inV_ints {z : Int} {ns : List Int} : inV (.int z) (ns.map V.int) = decide (z ∈ ns) := by
  unfold inV
  rw [List.any_map, Bool.eq_iff_iff, List.any_eq_true, decide_eq_true_eq]
  constructor
  · rintro ⟨x, hx, e⟩
    have e2 : x = z := by simpa [eqV] using e
    exact e2 ▸ hx
  · exact fun h => ⟨z, h, by simp [eqV]⟩
abbrev IntIs (v : V) (k : Nat) : Prop := v = .int (k : Int)
/-- the list of what is a step behind -/
def RowsAt (K : PySem.W.Frag) (H : Hp) (v : V) (ys : List Stn) : Prop := ∃ (l : Addr) (hs : List Hrow), v = .ref l ∧ H l = some (.lst (hs.map fun p => V.ref p.1)) ∧ (∀ p ∈ hs, H p.1 = some (.tup (p.2.map V.int))) ∧ hs.map (·.2) = ys
theorem RowsAt.same {K : PySem.W.Frag} {H H' : Hp} {v : V} {ys : List Stn} (s : Same H H') (h : RowsAt K H v ys) : RowsAt K H' v ys := by
  obtain ⟨l, hs, a, b, c, d⟩ := h
  exact ⟨l, hs, a, s _ _ b, fun p hp => s _ _ (c p hp), d⟩
/-- a list of one's own at D that is filled with tuples -/
structure TL (H0 H : Hp) (D : Addr) (hs : List Hrow) : Prop where
  nw : H0 D = none
  ls : H D = some (.lst (hs.map fun p => V.ref p.1))
  st : ∀ p ∈ hs, H p.1 = some (.tup (p.2.map V.int))
  sm : Same H0 H
theorem TL.new {H : Hp} {D : Addr} (h : H D = none) : TL H (upd H D (.lst [])) D [] := ⟨h, upd_same, fun p hp => (nomatch hp), Same.new h⟩
theorem TL.mono {H0 H H' : Hp} {D : Addr} {hs : List Hrow} (s : Same H H') (h : TL H0 H D hs) : TL H0 H' D hs := ⟨h.nw, s _ _ h.ls, fun p hp => s _ _ (h.st p hp), h.sm.trans s⟩
theorem TL.push {H0 H : Hp} {D q : Addr} {hs : List Hrow} {y : Stn} (h : TL H0 H D hs) (hq : H q = some (.tup (y.map V.int))) : TL H0 (upd H D (.lst (hs.map (fun p => V.ref p.1) ++ [V.ref q]))) D (hs ++ [(q, y)]) := by
  refine ⟨h.nw, by rw [upd_same, List.map_append]; rfl, fun z hz => ?_, same_upd h.sm h.nw⟩
  rcases List.mem_append.mp hz with hz | hz
  · have e := h.st z hz
    rw [upd_ne (ne_of e h.ls (by intro z; cases z))]
    exact e
  · rw [List.mem_singleton.mp hz, upd_ne (ne_of hq h.ls (by intro z; cases z))]
    exact hq
theorem lookA_map {β : Type} {R : List Stn} {f : Stn → β} {y : Stn} (h : y ∈ R) : lookA (R.map fun x => (x, f x)) y = some (f y) := by
  induction R with
  | nil => cases h
  | cons a R ih =>
    unfold lookA at ih ⊢
    rw [List.map_cons, List.find?_cons]
    by_cases e : a = y
    · rw [decide_eq_true e, e]
      rfl
    · rw [decide_eq_false e]
      rcases List.mem_cons.mp h with z | z
      · exact absurd z.symm e
      · exact ih z
def tTruL (K : PySem.W.Frag) (te : TE) : TT := fun σ H Q => te σ H fun x H' => ∃ k, TruV K x H' k ∧ Q k H'
theorem pt_truL {X : Cx} {a : Expr} {ta : TE} (ha : PE X a ta) (he : ∀ whole, isTrue a X.env whole = (do let v ← whole; standAt a.pos; holding [v] (truthy v)) := by intro _; rfl) : PT X a (tTruL X.K ta) := pt_truth ha he
/-- what is not touched keeps the lists of tuples -/
theorem RowsAt.but {K : PySem.W.Frag} {H H' : Hp} {D : Addr} {o : HO} {v : V} {ys : List Stn} (hD : H D = some o) (n1 : ∀ xs, o ≠ .lst xs) (n2 : ∀ xs, o ≠ .tup xs) (k : ∀ b u, b ≠ D → H b = some u → H' b = some u) (h : RowsAt K H v ys) : RowsAt K H' v ys := by
  obtain ⟨l, hs, a, b, c, d⟩ := h
  exact ⟨l, hs, a, k _ _ (ne_of b hD fun z => n1 _ z.symm) b, fun p hp => k _ _ (ne_of (c p hp) hD fun z => n2 _ z.symm) (c p hp), d⟩
theorem nxS_short {L : Nat} {S : Int} {x : Stn} (h : Bx L S x) (hL : L ≤ 6) : (nxS x).length ≤ 36 := by
  unfold nxS due
  rw [List.length_map]
  exact Nat.le_trans (List.length_filter_le _ _) (prs_short (by rw [h.1]; exact hL))
theorem tyes {σ : L2.St} {H : Hp} {Q : Bool → Hp → Prop} (h : Q true H) : tYes σ H Q := h
theorem nu_of {H H' : Hp} {p : Addr} (n : NX H H') (h : H' p = none) : Nu H p := by
  intro u e
  cases u with
  | ext φ => exact ⟨φ, rfl⟩
  | _ =>
    have e2 := n p _ (by intro φ z; cases z) e
    rw [h] at e2
    cases e2
theorem frs_one {ns : Stn} {n m : Nat} (a : Frs ns n) (b : Frs ns m) : n = m := by
  rcases Nat.lt_trichotomy n m with h | h | h
  · exact absurd a.last (b.more n h)
  · exact h
  · exact absurd b.last (a.more m h)
theorem none_back {H H' : Hp} {D : Addr} (s : Same H H') (h : H' D = none) : H D = none := by
  cases e : H D with
  | none => rfl
  | some o => exact absurd (s _ _ e) (by rw [h]; intro z; cases z)
/-- the bools that a comprehension over a list of tuples gives -/
theorem lc_bools {K : PySem.W.Frag} {a : Addr} {hs : List Hrow} {g : TG} {te : TE} {vs : List Nat} {σ : L2.St} {H1 : Hp} {D : Addr} {Q : Hp → Prop} (p : Stn → Bool) (hD : H1 D = none) (hl : H1 a = some (.lst (hs.map fun q => V.ref q.1))) (hst : ∀ q ∈ hs, H1 q.1 = some (.tup (q.2.map V.int))) (hz : hs.length < sizeLine)
    (hs' : ∀ (q : Addr) (y : Stn) (H : Hp) (Q' : VK), Same H1 H → H q = some (.tup (y.map V.int)) → Q' (.bl (p y)) H → g (.ref q) (wipe σ vs) H fun σ2 H2 => wipe σ2 vs = wipe σ vs ∧ te σ2 H2 Q')
    (hd : ∀ H, Same H1 H → H D = some (.lst (((hs.map (·.2)).map p).map V.bl)) → Q H) :
    ∃ W : Nat → Nat → Hp → Prop, (∃ m, W 0 m (upd H1 D (.lst []))) ∧ ∀ i m H, W i m H →
      ((Itl K a).stop i H ∧ Q H) ∨ ((Itl K a).go i H ∧ ∃ Nx : Hp → Prop, (∀ H', Nx H' → ∃ m', m' < m ∧ W (i + 1) m' H') ∧ ∀ x H', (Itl K a).yld i H x H' → g x (wipe σ vs) H' fun σ2 H2 => wipe σ2 vs = wipe σ vs ∧ tYes σ2 H2 fun b H3 =>
        if b = true then te σ2 H3 fun y H4 => ∃ acc, H4 D = some (.lst acc) ∧ acc.length < sizeLine ∧ Nx (upd H4 D (.lst (acc ++ [y]))) else Nx H3) := by
  refine lc_list (K := K) (a := a) (xs := hs.map fun q => V.ref q.1) (fun j H => H D = some (.lst ((((hs.map (·.2)).take j).map p).map V.bl)) ∧ Same H1 H) ⟨by rw [upd_same]; rfl, Same.new hD⟩ (fun j H _ q => SqL.of (q.2 _ _ hl)) ?_ ?_
  · rintro j x H hx ⟨hL, s1⟩
    rw [List.getElem?_map] at hx
    obtain ⟨q, hq, rfl⟩ := Option.map_eq_some_iff.mp hx
    have hm := List.mem_of_getElem? hq
    have e2 : (hs.map (·.2))[j]? = some q.2 := by rw [List.getElem?_map, hq]; rfl
    have z := hs' q.1 q.2 H (fun y H4 => ∃ acc, H4 D = some (.lst acc) ∧ acc.length < sizeLine ∧ (fun H => H D = some (.lst ((((hs.map (·.2)).take (j + 1)).map p).map V.bl)) ∧ Same H1 H) (upd H4 D (.lst (acc ++ [y])))) s1 (s1 _ _ (hst q hm)) ⟨_, hL, ?_, ?_, same_upd s1 hD⟩
    · exact z
    · rw [List.length_map, List.length_map, List.length_take, List.length_map]
      omega
    · rw [upd_same, List.take_add_one, e2]
      simp
  · rintro H ⟨hL, s1⟩
    rw [List.length_map] at hL
    exact hd H s1 (by rw [List.take_of_length_le (by rw [List.length_map]; exact Nat.le_refl _)] at hL; exact hL)
end Hd
set_option maxHeartbeats 8000000
/-! Small heaps: how soon one is empty. -/
namespace Hd
open PySem PySem.Spec PyProof.Rows L2
/-- a front with an empty heap -/
def zer (ns : Stn) (i : Nat) : Bool := ((frn ns i).map (·.1)).any z0
/-- the first front with an empty heap, among n -/
def few0 (ns : Stn) (n : Nat) : Option Nat := (List.range n).find? (zer ns)
def oNat : Option Nat → V
  | none => .non
  | some k => .int (k : Int)
theorem few0_some {ns : Stn} {n i : Nat} (hi : i < n) (hz : zer ns i = true) (hb : ∀ j, j < i → zer ns j = false) : few0 ns n = some i := by
  unfold few0
  induction n with
  | zero => omega
  | succ n ih =>
    rw [List.range_succ, List.find?_append]
    by_cases e : i < n
    · rw [ih e]; rfl
    · have : i = n := by omega
      subst this
      have h0 : (List.range i).find? (zer ns) = none := List.find?_eq_none.mpr fun j hj => by
        rw [hb j (List.mem_range.mp hj)]; decide
      rw [h0]
      simp [hz]
theorem few0_none {ns : Stn} {n : Nat} (hb : ∀ j, j < n → zer ns j = false) : few0 ns n = none := List.find?_eq_none.mpr fun j hj => by
  rw [hb j (List.mem_range.mp hj)]; decide
def spFewest (K : PySem.W.Frag) (C G : Addr) : Sp := fun vs H Q E => ∃ (v : V) (d : PyData), vs = [v] ∧ Dp K H v d ∧ (hpsD d = false → ∀ H', Same H H' → E (.ref C) none H') ∧
  ∀ ns, d = dI ns → hpsB ns = true → (smlB ns = false → ∀ H', Same H H' → E (.ref G) none H') ∧
    (smlB ns = true → (∃ t, v = .ref t ∧ H t = some (.tup (ns.map V.int))) ∧ ∀ n, Frs ns n → ∀ (H' : Hp), NX H H' → Q (oNat (few0 ns n)) H')
section
variable {P : Program} {w : World} {K : PySem.W.Frag} {mg : Str → Option Value} {base : Heap}
abbrev s_fewest : Stmt := top 42
theorem sc_fewest : FnScope ["heaps", "many", "front", "stand"] ["heaps"] (defScope s_fewest) := ⟨rfl, rfl, rfl, by decide +kernel, rfl, by decide +kernel, by decide +kernel⟩
theorem ok_fewest {f C G : Addr} {fd : FuncData} (F : Fun K "fewest" "fewest" s_fewest f fd) (T : Tsm mg) (C_check_small : Cal P w K mg base (L2N.CX P w) 4 "check_small" ["heaps"] (spChkSmall K C G)) (C_fronts : CalG P w K mg base 4 "fronts" ["heaps"] (spFronts K)) : FnOk P w K mg base (L2N.CX P w) 7 f fd ["heaps"] (spFewest K C G) := by
  refine okN F sc_fewest (fun vs H Q E h => ?_) (fun cdv A outer s H vs Q E hr h => ?_)
  · obtain ⟨v, d, rfl, _⟩ := h
    rfl
  · obtain ⟨v, d, rfl, hd, k1, k2⟩ := h
    refine ⟨_, (pss_cons (ps_expr (pe_cal C_check_small hr rfl (L2N.passes_call (L2N.takes_of rfl rfl rfl rfl) (fun _ _ _ _ h => h)) (pa_cons (pv 0) pa_nil)))
      (pss_cons (ps_forE (passes_of rfl) hr (by rfl) T.enumerate (pgm_cal C_fronts (hr.mono (by decide)) (by rfl) (pa_cons (pv 0) pa_nil)) (pg_tup rfl (pgs_cons (pg_name (i := 1) sc_fewest.nd rfl (Or.inl rfl)) (pgs_cons (pg_name (i := 2) sc_fewest.nd rfl (Or.inl rfl)) pgs_nil)))
      (pss_one (ps_if (pt_val (pe_callB (cr_any rfl) (by rfl) T.any (by decide +kernel) (pa_cons (pe_lc (own := [("stand", 3)]) (g := gName 3) (by rfl) sc_fewest.nd (pi_keys (pv 2)) (blkOk_by (own := [("stand", 3)]) (N := ["heaps", "many", "front", "stand"]) (sc := defScope s_fewest) (by decide +kernel)) (fun _ _ _ _ _ => pg_name (i := 3) sc_fewest.nd rfl (Or.inl rfl)) (fun _ _ _ _ _ => pts_nil) (fun _ _ _ _ _ => (pe_cmpR (op_in_seqK (K := K) rfl) pe_int (pv 3) (by rfl)))) pa_nil))) (pss_one (ps_ret (pv 1))) pss_nil)))
      (pss_one (ps_ret pe_non)))), ?_⟩
    refine ⟨_, rfl, v, d, rfl, hd, fun hg H1 s1 => k1 hg H1 s1, fun ns e hb => ⟨fun hs H1 s1 => ?_, fun hs H1 s1 => (k2 ns e hb).1 hs H1 s1⟩⟩
    obtain ⟨⟨t, rfl, hT⟩, k3⟩ := (k2 ns e hb).2 hs
    obtain ⟨hB, hpos⟩ := hps_bx hb
    obtain ⟨hS1, hS2, hS3⟩ := sml_room hb hs
    obtain ⟨n, _, hF⟩ := frs_is hB
    have T1 := s1 _ _ hT
    refine ⟨_, rfl, frG K ns H1, n, ⟨t, ns, ns.length, ns.sum.toNat, rfl, T1, hB, by omega, hS1, hF, rfl⟩, fun ga H2 s2 news2 => ⟨[], (fun b hb => nomatch hb), fun i σ H3 => (∃ x1 x2 x3 : Option V, σ = [some (.ref t), x1, x2, x3]) ∧ NX H1 H3 ∧ ∀ j, j < i → zer ns j = false, ⟨⟨none, none, none, rfl⟩, NX.of s2, fun j hj => absurd hj (Nat.not_lt_zero j)⟩, ?_, ?_⟩⟩
    · rintro i σ H3 hi ⟨⟨x1, x2, x3, rfl⟩, n3, hb3⟩ x Hw Hi H4 TT nw ⟨p, fa, o, kr, rfl, hp, hmr, hfM, hf0, hfw, hkeep⟩ ni hTT
      have hp4 := ni p _ (by intro φ z; cases z) hp
      have n4 := nx_turn n3 nw hf0 hkeep ni
      refine ⟨TT, _, rfl, SqT.of upd_same, rfl, _, _, rfl, _, _, rfl, rfl, ?_⟩
      have hp5 : (upd H4 TT (.tup [.int (i : Nat), .ref p])) p = some (.frz o (.dT kr)) := by rw [upd_ne (ne_of_none hp4 hTT)]; exact hp4
      have n5 := n4.then (NX.of (Same.new (o := .tup [.int (i : Nat), .ref p]) hTT))
      have s45 : Same (upd H4 TT (.tup [.int (i : Nat), .ref p])) (upd H4 TT (.tup [.int (i : Nat), .ref p])) := Same.refl _
      generalize hH5 : upd H4 TT (.tup [.int (i : Nat), .ref p]) = H5 at hp5 n5 ⊢
      refine ⟨_, rfl, p, o, rfl, .inr ⟨kr, hp5, fun D hD => lc_it (walk_keysT (d := p) (o := o) (kvs := kr)) (fun j H6 => H6 D = some (.lst (((((frn ns i).map (·.1)).take j).map z0).map V.bl)) ∧ Same H5 H6) ⟨by rw [upd_same]; rfl, Same.new hD⟩ (fun j H6 _ q => q.2 _ _ hp5) ?_ ?_⟩⟩
      · rintro j x H6 H7 hj ⟨hD6, s6⟩ ⟨e7, kk, vv, q, hkv, rfl, hq⟩
        subst e7
        obtain ⟨y, b, hy, rfl, hr⟩ := hmr.get hkv
        rw [kI_kV] at hq
        have hyk : ((frn ns i).map (·.1))[j]? = some y := by rw [List.getElem?_map, hy]; rfl
        have hlen : (((((frn ns i).map (·.1)).take j).map z0).map V.bl).length < sizeLine := by
          have e2 := few_of (frn_nodup ns i) (frn_bx hB i)
          rw [List.length_map, List.length_map, List.length_take]
          have e3 := (List.getElem?_eq_some_iff.mp hyk).1
          omega
        refine ⟨rfl, ?_⟩
        refine tyes ?_
        refine iteT ?_
        refine ⟨_, rfl, q, _, rfl, .inr (SqT.of hq), rfl, flat_ints y, _, hD6, hlen, ?_, same_upd s6 hD⟩
        rw [inV_ints, upd_same, List.take_add_one, hyk]
        simp [z0]
      · rintro H6 ⟨hD6, s6⟩
        have hlk : kr.length = ((frn ns i).map (·.1)).length := by rw [List.length_map]; exact hmr.len
        rw [hlk, List.take_length] at hD6
        refine ⟨D, _, rfl, SqL.of hD6, _, rfl, ?_⟩
        have ea : (((frn ns i).map (·.1)).map z0).any id = zer ns i := by
          unfold zer
          rw [List.any_map]
          rfl
        rw [ea]
        have n6 := n5.then (NX.of s6)
        cases hz : zer ns i with
        | true =>
          have hk := k3 n hF H6 ((NX.of s1).then n6)
          rw [few0_some hi hz hb3] at hk
          exact iteT ⟨_, rfl, hk⟩
        | false =>
          refine iteF ⟨fun b u _ e => s6 _ _ e, (fun b hb => nomatch hb), ⟨_, _, _, rfl⟩, n6, fun j hj => ?_⟩
          by_cases e : j = i
          · rw [e]; exact hz
          · exact hb3 j (by omega)
    · rintro σ H3 ⟨⟨x1, x2, x3, rfl⟩, n3, hb3⟩ Hw Hi H4 nw ⟨fa, hfM, hf0, hfw, hkeep⟩ ni
      have hk := k3 n hF H4 ((NX.of s1).then (nx_turn n3 nw hf0 hkeep ni))
      rw [few0_none hb3] at hk
      exact hk
end
end Hd
set_option maxHeartbeats 4000000
/-! The law's own steps; what changes and what stays. -/
namespace Hd
open PySem PySem.Spec PyProof.Rows L2
def mutO : HO → Bool
  | .lst _ => true
  | .dK _ => true
  | .dT _ => true
  | _ => false
/-- what stands at no place of M, or never changes, stands as it stood -/
structure Chg (M : List Addr) (H H' : Hp) : Prop where
  keep : ∀ a o, H a = some o → (mutO o = false ∨ a ∉ M) → H' a = some o
  there : ∀ a o, H a = some o → ∃ o', H' a = some o'
theorem Chg.refl {M : List Addr} {H : Hp} : Chg M H H := ⟨fun _ _ e _ => e, fun _ o e => ⟨o, e⟩⟩
theorem Chg.of {M : List Addr} {H H' : Hp} (s : Same H H') : Chg M H H' := ⟨fun a o e _ => s a o e, fun a o e => ⟨o, s a o e⟩⟩
theorem Chg.trans {M : List Addr} {H H1 H2 : Hp} (a : Chg M H H1) (b : Chg M H1 H2) : Chg M H H2 :=
  ⟨fun x o e n => b.keep x o (a.keep x o e n) n, fun x o e => by
    obtain ⟨o1, e1⟩ := a.there x o e
    exact b.there x o1 e1⟩
theorem Chg.mono {M N : List Addr} {H H' : Hp} (c : Chg M H H') (h : ∀ a ∈ M, a ∈ N) : Chg N H H' := ⟨fun a o e n => c.keep a o e (n.imp id fun z q => z (h a q)), c.there⟩
theorem Chg.upd {M : List Addr} {H H' : Hp} {a : Addr} {o : HO} (c : Chg M H H') (h : a ∈ M) (m : ∀ u, H' a = some u → mutO u = true) : Chg M H (upd H' a o) :=
  ⟨fun x u e n => by
    have e' := c.keep x u e n
    by_cases q : x = a
    · subst q
      rcases n with n | n
      · rw [m u e'] at n
        cases n
      · exact absurd h n
    · rw [upd_ne q]
      exact e', fun x u e => by
    by_cases q : x = a
    · exact ⟨o, by rw [q, upd_same]⟩
    · rw [upd_ne q]
      exact c.there x u e⟩
theorem Chg.free {M : List Addr} {H H' : Hp} {p : Addr} (c : Chg M H H') (h : H' p = none) : H p = none := by
  cases e : H p with
  | none => rfl
  | some o =>
    obtain ⟨o', e'⟩ := c.there p o e
    rw [h] at e'
    cases e'
theorem Chg.new {M : List Addr} {H H1 : Hp} {p : Addr} {o : HO} (c : Chg M H H1) (hp : H1 p = none) : Chg M H (L2.upd H1 p o) := c.trans (.of (Same.new hp))
theorem Chg.tup {M : List Addr} {K : PySem.W.Frag} {H H' : Hp} {a : Addr} {xs : List V} (c : Chg M H H') (h : SqT K H a xs) : SqT K H' a xs := by
  rcases h with (h | ⟨o, h⟩) | h
  · exact .inl (.inl (c.keep _ _ h (.inl rfl)))
  · exact .inl (.inr ⟨o, c.keep _ _ h (.inl rfl)⟩)
  · exact .inr h
theorem Chg.st {M : List Addr} {K : PySem.W.Frag} {H H' : Hp} {n : Nat} {p : Srow} (c : Chg M H H') (h : StAt K H n p) : StAt K H' n p := ⟨c.tup h.1, h.2⟩
/-- what was not there may change -/
theorem Same.chg {M : List Addr} {H H1 H2 : Hp} (s : Same H H1) (c : Chg M H1 H2) (h : ∀ a ∈ M, H a = none) : Same H H2 := fun a o e => c.keep a o (s a o e) (.inr fun q => by rw [h a q] at e; cases e)
theorem Kept.chg {h c : Addr} {H H' : Hp} (k : Kept h c H H') (d : DrawAt H h c) (d' : DrawAt H' h c) : Chg [h, c] H H' := by
  obtain ⟨⟨st, ix, cells, h1, h2, h3⟩, ne⟩ := d
  obtain ⟨⟨st', ix', cells', h1', h2', h3'⟩, ne'⟩ := d'
  refine ⟨fun a o e n => ?_, fun a o e => ?_⟩
  · refine k a o e ?_ ?_
    · rintro rfl
      rcases n with n | n
      · rw [h1] at e
        cases e
        cases n
      · exact n (List.mem_cons_self ..)
    · rintro rfl
      rcases n with n | n
      · rw [h2] at e
        cases e
        cases n
      · exact n (List.mem_cons_of_mem _ (List.mem_cons_self ..))
  · by_cases q1 : a = h
    · exact ⟨_, by rw [q1]; exact h1'⟩
    · by_cases q2 : a = c
      · exact ⟨_, by rw [q2]; exact h2'⟩
      · exact ⟨o, k a o e q1 q2⟩
theorem DrawAt.chg {M : List Addr} {H H' : Hp} {h c : Addr} (d : DrawAt H h c) (g : Chg M H H') (n1 : h ∉ M) (n2 : c ∉ M) : DrawAt H' h c := by
  obtain ⟨⟨st, ix, cells, h1, h2, h3⟩, ne⟩ := d
  exact ⟨⟨st, ix, cells, g.keep _ _ h1 (.inr n1), g.keep _ _ h2 (.inr n2), h3⟩, ne⟩
section
variable {P : Program} {w : World} {K : PySem.W.Frag} {mg : Str → Option Value} {base : Heap}
end
end Hd
set_option maxHeartbeats 4000000
/-! A desk: what it holds, what each method does. -/
namespace Hd
open PySem PySem.Spec PyProof.Rows L2
/-! ### numbers: heaps behind the first steps -/
def fin (s : List Int) (st : List (Nat × Nat)) : List Int := st.foldl (fun m p => mv m p.1 p.2) s
def scan (s : List Int) (st : List (Nat × Nat)) : List (List Int) := (List.range (st.length + 1)).map fun i => fin s (st.take i)
theorem fin_snoc (s : List Int) (st : List (Nat × Nat)) (p : Nat × Nat) : fin s (st ++ [p]) = mv (fin s st) p.1 p.2 := by
  unfold fin
  rw [List.foldl_append]
  rfl
theorem scan_snoc (s : List Int) (st : List (Nat × Nat)) (p : Nat × Nat) : scan s (st ++ [p]) = scan s st ++ [mv (fin s st) p.1 p.2] := by
  unfold scan
  rw [List.length_append, List.length_singleton, List.range_succ, List.map_append]
  congr 1
  · refine List.map_congr_left fun i hi => ?_
    have := List.mem_range.mp hi
    rw [List.take_append_of_le_length (by omega)]
  · rw [List.map_cons, List.map_nil, ← fin_snoc, List.take_of_length_le (by simp)]
theorem scan_len (s : List Int) (st : List (Nat × Nat)) : (scan s st).length = st.length + 1 := by
  unfold scan
  rw [List.length_map, List.length_range]
theorem scan_get (s : List Int) (st : List (Nat × Nat)) {i : Nat} (h : i ≤ st.length) : (scan s st)[i]? = some (fin s (st.take i)) := by
  unfold scan
  rw [List.getElem?_map, List.getElem?_range (by omega)]
  rfl
theorem scan_last (s : List Int) (st : List (Nat × Nat)) : (scan s st)[st.length]? = some (fin s st) := by
  rw [scan_get s st (Nat.le_refl _), List.take_length]
theorem scan_drop (s : List Int) (st : List (Nat × Nat)) (h : st ≠ []) : scan s st.dropLast = (scan s st).dropLast := by
  have e := scan_snoc s st.dropLast (st.getLast h)
  rw [List.dropLast_concat_getLast h] at e
  rw [e, List.dropLast_concat]
theorem fin_len (s : List Int) (st : List (Nat × Nat)) : (fin s st).length = s.length := by
  induction st generalizing s with
  | nil => rfl
  | cons p st ih => 
    show (fin (mv s p.1 p.2) st).length = _
    rw [ih, len_mv]
/-- every step can be made where it is made -/
def Can (s : List Int) (st : List (Nat × Nat)) : Prop := ∀ i (h : i < st.length), (st[i]).1 < s.length ∧ (st[i]).2 < s.length ∧ (st[i]).1 ≠ (st[i]).2 ∧ can (fin s (st.take i)) (st[i]).1 (st[i]).2 = true
theorem Can.nil (s : List Int) : Can s [] := fun i h => absurd h (by simp)
theorem Can.snoc {s : List Int} {st : List (Nat × Nat)} {p : Nat × Nat} (h : Can s st) (h1 : p.1 < s.length) (h2 : p.2 < s.length) (h3 : p.1 ≠ p.2) (hc : can (fin s st) p.1 p.2 = true) : Can s (st ++ [p]) := fun i hi => by
  rw [List.length_append, List.length_singleton] at hi
  by_cases q : i < st.length
  · rw [List.getElem_append_left q, List.take_append_of_le_length (by omega)]
    exact h i q
  · have e : i = st.length := by omega
    subst e
    rw [List.getElem_append_right (by omega), List.take_append_of_le_length (by omega), List.take_length]
    simpa using ⟨h1, h2, h3, hc⟩
theorem Can.take {s : List Int} {st : List (Nat × Nat)} (h : Can s st) (k : Nat) : Can s (st.take k) := fun i hi => by
  rw [List.length_take] at hi
  rw [List.getElem_take, List.take_take, Nat.min_eq_left (by omega)]
  exact h i (by omega)
theorem Can.drop {s : List Int} {st : List (Nat × Nat)} (h : Can s st) : Can s st.dropLast := by
  rw [List.dropLast_eq_take]
  exact h.take _
/-! ### the object -/
def pf (ls lt : Addr) : List (Str × V) := putF "_steps" (.ref lt) (putF "_stands" (.ref ls) [])
theorem ne_ss : ¬ (("_stands" : Str) = "_steps") := by decide +kernel
theorem ne_ts : ¬ (("_steps" : Str) = "_stands") := by decide +kernel
theorem pf_stands (ls lt : Addr) : (pf ls lt).lookup ("_stands" : Str) = some (.ref ls) := by
  unfold pf
  rw [lookup_putF, if_neg ne_ss, lookup_putF, if_pos rfl]
theorem pf_steps (ls lt : Addr) : (pf ls lt).lookup ("_steps" : Str) = some (.ref lt) := by
  unfold pf
  rw [lookup_putF, if_pos rfl]
theorem pf_no (ls lt : Addr) {m : Str} (h1 : ¬ m = "_steps") (h2 : ¬ m = "_stands") : (pf ls lt).lookup m = none := by
  unfold pf
  rw [lookup_putF, if_neg h1, lookup_putF, if_neg h2]
  all_goals rfl
theorem pf_move (ls lt : Addr) : (pf ls lt).lookup ("move" : Str) = none := pf_no _ _ (by decide +kernel) (by decide +kernel)
theorem pf_undo (ls lt : Addr) : (pf ls lt).lookup ("undo" : Str) = none := pf_no _ _ (by decide +kernel) (by decide +kernel)
theorem pf_copy (ls lt : Addr) : (pf ls lt).lookup ("copy" : Str) = none := pf_no _ _ (by decide +kernel) (by decide +kernel)
theorem pf_empties (ls lt : Addr) : (pf ls lt).lookup ("empties" : Str) = none := pf_no _ _ (by decide +kernel) (by decide +kernel)
/-- a list at l of heaps whose tuples bear no dict -/
structure HpZ (H : Hp) (l : Addr) (hs : List Hrow) : Prop where
  ls : H l = some (.lst (hs.map fun p => V.ref p.1))
  st : ∀ p ∈ hs, TupZ H p.1 (p.2.map V.int)
theorem Chg.tz {M : List Addr} {H H' : Hp} {a : Addr} {xs : List V} (c : Chg M H H') (h : TupZ H a xs) : TupZ H' a xs := by
  obtain ⟨o, d, h⟩ := h
  exact ⟨o, d, c.keep _ _ h (.inl rfl)⟩
/-- the desk at d: its lists at ls, lt; it began with s and made st -/
structure DeskAt (K : PySem.W.Frag) (C : Addr) (H : Hp) (d ls lt : Addr) (s : List Int) (st : List (Nat × Nat)) (hs : List Hrow) (ps : List Srow) : Prop where
  ins : ∃ dx, H d = some (.ins C dx (pf ls lt))
  sl : HpZ H ls hs
  pl : PrL K H lt s.length ps
  ne : ls ≠ lt
  hs_ : hs.map (·.2) = scan s st
  ps_ : ps.map (·.2) = st
  good : hpsB s = true
  can : Can s st
theorem DeskAt.chg {K : PySem.W.Frag} {C : Addr} {H H' : Hp} {M : List Addr} {d ls lt : Addr} {s : List Int} {st : List (Nat × Nat)} {hs : List Hrow} {ps : List Srow} (D : DeskAt K C H d ls lt s st hs ps) (c : Chg M H H') (n1 : ls ∉ M) (n2 : lt ∉ M) : DeskAt K C H' d ls lt s st hs ps := by
  obtain ⟨⟨dx, i⟩, ⟨l1, l2⟩, ⟨p1, p2⟩, ne, e1, e2, g, cn⟩ := D
  exact ⟨⟨dx, c.keep _ _ i (.inl rfl)⟩, ⟨c.keep _ _ l1 (.inr n1), fun p hp => c.tz (l2 p hp)⟩, ⟨c.keep _ _ p1 (.inr n2), fun p hp => c.st (p2 p hp)⟩, ne, e1, e2, g, cn⟩
theorem DeskAt.same {K : PySem.W.Frag} {C : Addr} {H H' : Hp} {d ls lt : Addr} {s : List Int} {st : List (Nat × Nat)} {hs : List Hrow} {ps : List Srow} (D : DeskAt K C H d ls lt s st hs ps) (e : Same H H') : DeskAt K C H' d ls lt s st hs ps :=
  D.chg (M := []) (.of e) (by simp) (by simp)
theorem DeskAt.plen {K : PySem.W.Frag} {C : Addr} {H : Hp} {d ls lt : Addr} {s : List Int} {st : List (Nat × Nat)} {hs : List Hrow} {ps : List Srow} (D : DeskAt K C H d ls lt s st hs ps) : ps.length = st.length := by rw [← D.ps_, List.length_map]
theorem DeskAt.hlen {K : PySem.W.Frag} {C : Addr} {H : Hp} {d ls lt : Addr} {s : List Int} {st : List (Nat × Nat)} {hs : List Hrow} {ps : List Srow} (D : DeskAt K C H d ls lt s st hs ps) : hs.length = st.length + 1 := by rw [← scan_len s st, ← D.hs_, List.length_map]
/-- the heaps that stand -/
theorem DeskAt.last {K : PySem.W.Frag} {C : Addr} {H : Hp} {d ls lt : Addr} {s : List Int} {st : List (Nat × Nat)} {hs : List Hrow} {ps : List Srow} (D : DeskAt K C H d ls lt s st hs ps) : ∃ t, hs[st.length]? = some (t, fin s st) ∧ TupZ H t ((fin s st).map V.int) := by
  have e := scan_last s st
  rw [← D.hs_, List.getElem?_map] at e
  obtain ⟨p, hp, e2⟩ := Option.map_eq_some_iff.mp e
  refine ⟨p.1, ?_, ?_⟩
  · rw [hp, ← e2]
  · have := D.sl.st p (List.mem_of_getElem? hp)
    rw [e2] at this
    exact this
theorem DeskAt.plan {K : PySem.W.Frag} {C : Addr} {H : Hp} {d ls lt : Addr} {s : List Int} {st : List (Nat × Nat)} {hs : List Hrow} {ps : List Srow} (D : DeskAt K C H d ls lt s st hs ps) : ∀ p ∈ ps, StAt K H s.length p := D.pl.st
theorem at_neg1 {xs : List V} {v : V} {n : Nat} (h : xs[n]? = some v) (hn : n + 1 = xs.length) : atI xs (-1) = some v := by
  have e : xs = xs.take n ++ [v] := by
    have q := List.take_append_drop n xs
    have z : xs.drop n = [v] := by
      obtain ⟨hlt, he⟩ := List.getElem?_eq_some_iff.mp h
      rw [List.drop_eq_getElem_cons hlt, he, List.drop_of_length_le (by omega)]
    rw [z] at q
    exact q.symm
  rw [e]
  exact atI_last _ v
structure DskT (K : PySem.W.Frag) (mg : Str → Option Value) (C : Addr) : Prop extends Tp mg where
  cl : Cls K C
  nS : NoAttr K C "_stands"
  nT : NoAttr K C "_steps"
/-! ### the promises -/
def spInit (K : PySem.W.Frag) (C : Addr) : Sp := fun vs H Q _ => ∃ (d dx t : Addr) (s : List Int), vs = [.ref d, .ref t] ∧ H d = some (.ins C dx []) ∧ TupZ H t (s.map V.int) ∧ hpsB s = true ∧
  ∀ (ls lt : Addr) (H' : Hp), H ls = none → H lt = none → (∀ a o, H a = some o → a ≠ d → H' a = some o) → DeskAt K C H' d ls lt s [] [(t, s)] [] → Q .non H'
def spDHeaps (K : PySem.W.Frag) (C : Addr) : Sp := fun vs H Q _ => ∃ (d ls lt : Addr) (s : List Int) (st : List (Nat × Nat)) (hs : List Hrow) (ps : List Srow), vs = [.ref d] ∧ DeskAt K C H d ls lt s st hs ps ∧ ∀ t, TupZ H t ((fin s st).map V.int) → Q (.ref t) H
def spPlan (K : PySem.W.Frag) (C : Addr) : Sp := fun vs H Q _ => ∃ (d ls lt : Addr) (s : List Int) (st : List (Nat × Nat)) (hs : List Hrow) (ps : List Srow), vs = [.ref d] ∧ DeskAt K C H d ls lt s st hs ps ∧ ∀ (p : Addr) (H' : Hp), Same H H' → H p = none → H' p = some (.tup (ps.map fun p => V.ref p.1)) → Q (.ref p) H'
def spMove (K : PySem.W.Frag) (C S F : Addr) : Sp := fun vs H Q E => ∃ (d ls lt : Addr) (s : List Int) (st : List (Nat × Nat)) (hs : List Hrow) (ps : List Srow) (x y : V) (dx dy : PyData), vs = [.ref d, x, y] ∧ DeskAt K C H d ls lt s st hs ps ∧ st.length ≤ 1000 ∧ Dp K H x dx ∧ Dp K H y dy ∧
  (∀ i j : Nat, PyData.tuple [dx, dy] = dS (i, j) → i < s.length → j < s.length → i ≠ j → can (fin s st) i j = true → st.length < 100 → ∀ (e u : Addr) (H' : Hp), Chg [ls, lt] H H' → H e = none → H u = none → DeskAt K C H' d ls lt s (st ++ [(i, j)]) (hs ++ [(e, mv (fin s st) i j)]) (ps ++ [(u, i, j)]) → Q (.int ((fin s st).getD j 0)) H') ∧
  (stD (fin s st) (.tuple [dx, dy]) = false → ∀ H', Same H H' → E (.ref S) none H') ∧
  (stD (fin s st) (.tuple [dx, dy]) = true → 100 ≤ st.length → ∀ H', Same H H' → E (.ref F) none H')
def spEmpties (K : PySem.W.Frag) (C : Addr) : Sp := fun vs H Q _ => ∃ (d ls lt : Addr) (s : List Int) (st : List (Nat × Nat)) (hs : List Hrow) (ps : List Srow), vs = [.ref d] ∧ DeskAt K C H d ls lt s st hs ps ∧ Q (.int (((fin s st).count 0 : Nat) : Int)) H
def spUndo (K : PySem.W.Frag) (C : Addr) : Sp := fun vs H Q _ => ∃ (d ls lt : Addr) (s : List Int) (st : List (Nat × Nat)) (hs : List Hrow) (ps : List Srow), vs = [.ref d] ∧ DeskAt K C H d ls lt s st hs ps ∧
  (st = [] → Q (.bl false) H) ∧ (st ≠ [] → ∀ H', Chg [ls, lt] H H' → DeskAt K C H' d ls lt s st.dropLast hs.dropLast ps.dropLast → Q (.bl true) H')
def spCopy (K : PySem.W.Frag) (C : Addr) : Sp := fun vs H Q _ => ∃ (d ls lt : Addr) (s : List Int) (st : List (Nat × Nat)) (hs : List Hrow) (ps : List Srow), vs = [.ref d] ∧ DeskAt K C H d ls lt s st hs ps ∧ st.length ≤ 100 ∧
  ∀ (d' ls' lt' : Addr) (hs' : List Hrow) (ps' : List Srow) (H' : Hp), Same H H' → H ls' = none → H lt' = none → DeskAt K C H' d' ls' lt' s st hs' ps' → Q (.ref d') H'
def spDLen (K : PySem.W.Frag) (C : Addr) : Sp := fun vs H Q _ => ∃ (d ls lt : Addr) (s : List Int) (st : List (Nat × Nat)) (hs : List Hrow) (ps : List Srow), vs = [.ref d] ∧ DeskAt K C H d ls lt s st hs ps ∧ Q (.int (st.length : Int)) H
section
variable {P : Program} {w : World} {K : PySem.W.Frag} {mg : Str → Option Value} {base : Heap}
abbrev s_Desk_init : Stmt := inClass (top 30) 0
theorem sc_Desk_init : FnScope ["self", "heaps"] ["self", "heaps"] (defScope s_Desk_init) := ⟨rfl, rfl, rfl, by decide +kernel, rfl, by decide +kernel, by decide +kernel⟩
theorem ok_Desk_init {f C : Addr} {fd : FuncData} (F : Fun K "__init__" "Desk.__init__" s_Desk_init f fd) (T : DskT K mg C) (C_check_heaps : Cal P w K mg base CX0 3 "check_heaps" ["heaps"] (spChkHeaps K)) : FnOk P w K mg base CX0 4 f fd ["self", "heaps"] (spInit K C) := by
  refine F.ok sc_Desk_init (fun vs H Q E h => ?_) (fun cdv A outer s H vs Q E hr h => ?_)
  · obtain ⟨d, dx, t, s, rfl, _⟩ := h
    rfl
  · obtain ⟨d, dx, t, s, rfl, hd, hS, hg, k⟩ := h
    refine ⟨_, (pss_cons (ps_expr (pe_cal C_check_heaps hr rfl pass0 (pa_cons (pv 1) pa_nil)))
      (pss_cons (ps_fld (pv 0) (pe_lst (pa_cons (pv 1) pa_nil)) rfl)
      (pss_one (ps_fld (pv 0) (pe_lst pa_nil) rfl)))), ?_⟩
    refine ⟨_, rfl, t, s, rfl, hS.sq, hg, fun H1 s1 => ?_⟩
    have hd1 := s1 _ _ hd
    refine ⟨_, rfl, by show 1 ≤ sizeLine; decide, fun ls hls => ?_⟩
    have n1 : d ≠ ls := ne_of_none hd1 hls
    refine ⟨_, rfl, d, C, dx, [], rfl, (by rw [upd_ne n1]; exact hd1), T.cl, T.nS, (by show 0 < 1000; decide), Nat.zero_le _, fun lt hlt => ?_⟩
    have n2 : d ≠ lt := fun q => by
      rw [q, upd_same] at hlt
      cases hlt
    have n3 : ls ≠ lt := fun q => by
      rw [← q, upd_ne n1.symm, upd_same] at hlt
      cases hlt
    have hlt1 : H1 lt = none := by
      rw [upd_ne n2.symm, upd_ne n3.symm] at hlt
      exact hlt
    refine ⟨_, rfl, d, C, dx, _, rfl, (by rw [upd_ne n2, upd_same]), T.cl, T.nT, (by show 1 < 1000; decide), ?_⟩
    have keep : ∀ a o, H a = some o → a ≠ d → (upd (upd (upd (upd H1 ls (.lst [.ref t])) d (.ins C dx (putF "_stands" (.ref ls) []))) lt (.lst [])) d (.ins C dx (pf ls lt))) a = some o := fun a o e nd => by
      have e1 := s1 _ _ e
      rw [upd_ne nd, upd_ne (ne_of_none e1 hlt1), upd_ne nd, upd_ne (ne_of_none e1 hls)]
      exact e1
    have tupk : TupZ (upd (upd (upd (upd H1 ls (.lst [.ref t])) d (.ins C dx (putF "_stands" (.ref ls) []))) lt (.lst [])) d (.ins C dx (pf ls lt))) t (s.map V.int) := by
      obtain ⟨o, od, q⟩ := hS
      exact ⟨o, od, keep _ _ q (ne_of q hd (by intro z; cases z))⟩
    refine k ls lt _ (s1.free hls) (s1.free hlt1) keep ⟨⟨dx, upd_same⟩, ⟨?_, fun p hp => ?_⟩, ⟨?_, fun p hp => (nomatch hp)⟩, n3, rfl, rfl, hg, .nil s⟩
    · rw [upd_ne n1.symm, upd_ne n3, upd_ne n1.symm, upd_same]
      rfl
    · have ep : p = (t, s) := by simpa using hp
      subst ep
      exact tupk
    · rw [upd_ne n2.symm, upd_same]
      rfl
abbrev s_Desk_heaps : Stmt := inClass (top 30) 1
theorem sc_Desk_heaps : FnScope ["self"] ["self"] (defScope s_Desk_heaps) := ⟨rfl, rfl, rfl, by decide +kernel, rfl, by decide +kernel, by decide +kernel⟩
theorem ok_Desk_heaps {f C : Addr} {fd : FuncData} (F : Fun K "heaps" "Desk.heaps" s_Desk_heaps f fd) (T : DskT K mg C) : FnOk P w K mg base CX0 1 f fd ["self"] (spDHeaps K C) := by
  refine F.ok sc_Desk_heaps (fun vs H Q E h => ?_) (fun cdv A outer s H vs Q E hr h => ?_)
  · obtain ⟨d, ls, lt, s, st, hs, ps, rfl, _⟩ := h
    rfl
  · obtain ⟨d, ls, lt, s, st, hs, ps, rfl, D, k⟩ := h
    refine ⟨_, (pss_one (ps_ret (pe_ix ix_list (pe_fld (pv 0) rfl) (pe_un un_neg pe_int) (fun _ _ => rfl)))), ?_⟩
    obtain ⟨dx, hd⟩ := D.ins
    obtain ⟨t, ht, hT⟩ := D.last
    exact ⟨_, rfl, d, C, dx, _, _, rfl, hd, T.cl, T.nS, pf_stands _ _, _, rfl, ls, _, _, _, rfl, rfl, SqL.of D.sl.ls, at_neg1 (by rw [List.getElem?_map, ht]; rfl) (by rw [List.length_map, D.hlen]), k t hT⟩
abbrev s_Desk_plan : Stmt := inClass (top 30) 2
theorem sc_Desk_plan : FnScope ["self"] ["self"] (defScope s_Desk_plan) := ⟨rfl, rfl, rfl, by decide +kernel, rfl, by decide +kernel, by decide +kernel⟩
theorem ok_Desk_plan {f C : Addr} {fd : FuncData} (F : Fun K "plan" "Desk.plan" s_Desk_plan f fd) (T : DskT K mg C) : FnOk P w K mg base CX0 1 f fd ["self"] (spPlan K C) := by
  refine F.ok sc_Desk_plan (fun vs H Q E h => ?_) (fun cdv A outer s H vs Q E hr h => ?_)
  · obtain ⟨d, ls, lt, s, st, hs, ps, rfl, _⟩ := h
    rfl
  · obtain ⟨d, ls, lt, s, st, hs, ps, rfl, D, k⟩ := h
    refine ⟨_, (pss_one (ps_ret (pe_callTy call_tuple_of (by rfl) T.tuple (by decide +kernel) (pa_cons (pe_fld (pv 0) rfl) pa_nil)))), ?_⟩
    obtain ⟨dx, hd⟩ := D.ins
    exact ⟨_, rfl, d, C, dx, _, _, rfl, hd, T.cl, T.nT, pf_steps _ _, lt, _, rfl, .inl ⟨SqL.of D.pl.ls, fun p hp => k p _ (Same.new hp) hp upd_same⟩⟩
abbrev s_Desk_move : Stmt := inClass (top 30) 3
theorem sc_Desk_move : FnScope ["self", "one", "other", "step", "stand"] ["self", "one", "other"] (defScope s_Desk_move) := ⟨rfl, rfl, rfl, by decide +kernel, rfl, by decide +kernel, by decide +kernel⟩
theorem ok_Desk_move {f C S FL : Addr} {fd : FuncData} (F : Fun K "move" "Desk.move" s_Desk_move f fd) (T : DskT K mg C) (mM : ∃ t, mg "MOST_STEPS" = some (.int 100 t)) (BF : NilX P K mg "Full" FL)
    (C_check_step : Cal P w K mg base (L2N.CX P w) 3 "check_step" ["heaps", "step"] (spChkStep K S)) (C_behind : Cal P w K mg base CX0 2 "behind" ["heaps", "step"] (spBehindZ K)) : FnOk P w K mg base (L2N.CX P w) 4 f fd ["self", "one", "other"] (spMove K C S FL) := by
  refine okN F sc_Desk_move (fun vs H Q E h => ?_) (fun cdv A outer s H vs Q E hr h => ?_)
  · obtain ⟨d, ls, lt, s, st, hs, ps, x, y, dx, dy, rfl, _⟩ := h
    rfl
  · obtain ⟨d, ls, lt, s, st, hs, ps, x, y, dx, dy, rfl, D, hst, hx, hy, k1, k2, k3⟩ := h
    refine ⟨_, (pss_cons (ps_set (i := 3) sc_Desk_move.nd rfl (Or.inl rfl) (pe_tup (pa_cons (pv 1) (pa_cons (pv 2) pa_nil))))
      (pss_cons (ps_set (i := 4) sc_Desk_move.nd rfl (Or.inl rfl) (pe_ix ix_list (pe_fld (pv 0) rfl) (pe_un un_neg pe_int) (fun _ _ => rfl)))
      (pss_cons (ps_expr (pe_cal C_check_step hr rfl (L2N.passes_call (L2N.takes_of rfl rfl rfl rfl) (fun _ _ _ _ h => h)) (pa_cons (pv 4) (pa_cons (pv 3) pa_nil))))
      (pss_cons (ps_if (pt_cmpR op_ge (pe_callB call_len_seq (by rfl) T.len PySem.boot_len (pa_cons (pe_fld (pv 0) rfl) pa_nil)) (pe_gint rfl mM) (nomark _)) (pss_one (L2N.ps_raise rfl (L2N.takes_of rfl rfl rfl rfl) (pmkN_nil BF (hr.mono (by decide : 1 ≤ 3)) rfl))) pss_nil)
      (pss_cons (ps_expr (pe_bm PySem.F.plainAttrs_list PySem.F.slot_list_append PySem.F.type_list_append mt_append (pe_fld (pv 0) rfl) (pa_cons (pe_cal C_behind hr rfl pass0 (pa_cons (pv 4) (pa_cons (pv 3) pa_nil))) pa_nil)))
      (pss_cons (ps_expr (pe_bm PySem.F.plainAttrs_list PySem.F.slot_list_append PySem.F.type_list_append mt_append (pe_fld (pv 0) rfl) (pa_cons (pv 3) pa_nil)))
      (pss_one (ps_ret (pe_ix ix_tup (pv 4) (pv 2) (fun _ _ => rfl)))))))))), ?_⟩
    obtain ⟨ddx, hd⟩ := D.ins
    obtain ⟨t, ht, hT⟩ := D.last
    refine ⟨_, rfl, _, rfl, by show 2 ≤ sizeLine; decide, fun u hu => ?_⟩
    have s1 : Same H (upd H u (.tup [x, y])) := Same.new hu
    have D1 := D.same s1
    refine ⟨_, rfl, d, C, ddx, _, _, rfl, s1 _ _ hd, T.cl, T.nS, pf_stands _ _, _, rfl, ls, _, _, _, rfl, rfl, SqL.of D1.sl.ls, at_neg1 (by rw [List.getElem?_map, ht]; rfl) (by rw [List.length_map, D.hlen]), ?_⟩
    have hU : SqT K (upd H u (.tup [x, y])) u [x, y] := SqT.of upd_same
    have T1 : SqT K _ t _ := Same.tup s1 hT.sq
    have hxy := dp_same s1 hx
    have hyy := dp_same s1 hy
    refine ⟨_, rfl, _, rfl, t, _, _, _, rfl, T1, .tup hU (.cons hxy (.cons hyy .nil)), fun hok => ?_, fun hno => k2 hno _ s1⟩
    refine ⟨_, rfl, d, C, ddx, _, _, rfl, s1 _ _ hd, T.cl, T.nT, pf_steps _ _, lt, _, rfl, .inl (SqL.of D1.pl.ls), _, _, rfl, rfl, _, rfl, ?_⟩
    rw [List.length_map, D.plen]
    by_cases hfull : 100 ≤ st.length
    · rw [decide_eq_true (show (100 : Int) ≤ (st.length : Int) by omega)]
      exact iteT (k3 hok hfull _ s1)
    rw [decide_eq_false (show ¬ (100 : Int) ≤ (st.length : Int) by omega)]
    refine iteF ?_
    have hroom : st.length < 100 := by omega
    obtain ⟨i, j, eij, hi, hj, hij, hc⟩ := stD_pr hok
    have exy : x = .int (i : Int) ∧ y = .int (j : Int) := by
      unfold dS at eij
      simp only [PyData.tuple.injEq, List.cons.injEq, and_true] at eij
      obtain ⟨rfl, rfl⟩ := eij
      cases hx
      cases hy
      exact ⟨rfl, rfl⟩
    obtain ⟨rfl, rfl⟩ := exy
    refine ⟨_, rfl, d, C, ddx, _, _, rfl, s1 _ _ hd, T.cl, T.nS, pf_stands _ _, .inl ⟨rfl, _, SqL.of D1.sl.ls⟩, _, rfl, _, rfl, t, u, fin s st, i, j, rfl, T1, hU, hi, hj, hij, fun e H2 s2 he he2 => ?_⟩
    have D2 := D1.same s2
    have hd2 := s2 _ _ (s1 _ _ hd)
    refine ⟨ls, _, _, rfl, rfl, D2.sl.ls, (by rw [List.length_map, D.hlen, sizeLine_eq]; omega), ?_⟩
    have ndl : d ≠ ls := ne_of hd2 D2.sl.ls (by intro z; cases z)
    have ndt : d ≠ lt := ne_of hd2 D2.pl.ls (by intro z; cases z)
    refine ⟨_, rfl, d, C, ddx, _, _, rfl, (by rw [upd_ne ndl]; exact hd2), T.cl, T.nT, pf_steps _ _, .inl ⟨rfl, _, SqL.of (by rw [upd_ne D.ne.symm]; exact D2.pl.ls)⟩, _, rfl, lt, _, _, rfl, rfl, (by rw [upd_ne D.ne.symm]; exact D2.pl.ls), (by rw [List.length_map, D.plen, sizeLine_eq]; omega), ?_⟩
    have s12 := s1.trans s2
    have c1 : Chg [ls, lt] H (upd H2 ls (.lst (hs.map (fun p => V.ref p.1) ++ [V.ref e]))) := (Chg.of s12).upd (by simp) (fun v hv => by rw [D2.sl.ls] at hv; cases hv; rfl)
    have c2 : Chg [ls, lt] H (upd (upd H2 ls (.lst (hs.map (fun p => V.ref p.1) ++ [V.ref e]))) lt (.lst (ps.map (fun p => V.ref p.1) ++ [V.ref u]))) := c1.upd (by simp) (fun v hv => by rw [upd_ne D.ne.symm, D2.pl.ls] at hv; cases hv; rfl)
    have c3 : Chg [ls, lt] H2 (upd (upd H2 ls (.lst (hs.map (fun p => V.ref p.1) ++ [V.ref e]))) lt (.lst (ps.map (fun p => V.ref p.1) ++ [V.ref u]))) := (Chg.refl.upd (by simp) (fun v hv => by rw [D2.sl.ls] at hv; cases hv; rfl)).upd (by simp) (fun v hv => by rw [upd_ne D.ne.symm, D2.pl.ls] at hv; cases hv; rfl)
    refine ⟨_, rfl, _, rfl, t, _, _, _, rfl, rfl, c3.tup (Same.tup s2 T1), at_of rfl (getD_at hj), ?_⟩
    refine k1 i j eij (by rw [fin_len] at hi; exact hi) (by rw [fin_len] at hj; exact hj) hij hc hroom e u _ c2 (s1.free he) hu ⟨⟨ddx, c2.keep _ _ hd (.inl rfl)⟩, ⟨?_, fun p hp => ?_⟩, ⟨?_, fun p hp => ?_⟩, D.ne, ?_, ?_, D.good, ?_⟩
    · rw [upd_ne D.ne, upd_same, List.map_append]
      rfl
    · rcases List.mem_append.mp hp with hp | hp
      · exact c2.tz (D.sl.st p hp)
      · have ep : p = (e, mv (fin s st) i j) := by simpa using hp
        subst ep
        exact c3.tz he2
    · rw [upd_same, List.map_append]
      rfl
    · rcases List.mem_append.mp hp with hp | hp
      · exact c2.st (D.pl.st p hp)
      · have ep : p = (u, i, j) := by simpa using hp
        subst ep
        rw [fin_len] at hi hj
        exact ⟨c3.tup (Same.tup s2 hU), hi, hj, hij⟩
    · rw [List.map_append, D.hs_, scan_snoc]
      rfl
    · rw [List.map_append, D.ps_]
      rfl
    · rw [fin_len] at hi hj
      exact D.can.snoc hi hj hij hc
abbrev s_Desk___len__ : Stmt := inClass (top 30) 7
theorem sc_Desk___len__ : FnScope ["self"] ["self"] (defScope s_Desk___len__) := ⟨rfl, rfl, rfl, by decide +kernel, rfl, by decide +kernel, by decide +kernel⟩
theorem ok_Desk___len__ {f C : Addr} {fd : FuncData} (F : Fun K "__len__" "Desk.__len__" s_Desk___len__ f fd) (T : DskT K mg C) : FnOk P w K mg base CX0 1 f fd ["self"] (spDLen K C) := by
  refine F.ok sc_Desk___len__ (fun vs H Q E h => ?_) (fun cdv A outer s H vs Q E hr h => ?_)
  · obtain ⟨d, ls, lt, s, st, hs, ps, rfl, _⟩ := h
    rfl
  · obtain ⟨d, ls, lt, s, st, hs, ps, rfl, D, k⟩ := h
    refine ⟨_, (pss_one (ps_ret (pe_callB call_len_seq (by rfl) T.len PySem.boot_len (pa_cons (pe_fld (pv 0) rfl) pa_nil)))), ?_⟩
    obtain ⟨dx, hd⟩ := D.ins
    refine ⟨_, rfl, d, C, dx, _, _, rfl, hd, T.cl, T.nT, pf_steps _ _, lt, _, rfl, .inl (SqL.of D.pl.ls), ?_⟩
    rw [List.length_map, D.plen]
    exact k
end
end Hd
set_option maxHeartbeats 4000000
/-! Texts as lists of signs: lines, words, numbers; what a text of heaps and a plan says. -/
namespace Hd
open PySem PySem.Spec PyProof.Rows L2 _root_.TL NumText
def lns (l : List Nat) : List (List Nat) := spl [10] 0 [] l
def wds (l : List Nat) : List (List Nat) := (spl [32] 0 [] l).filter fun w => !w.isEmpty
theorem spl_ne {S : List Nat} : ∀ (l acc : List Nat) (k : Nat), spl S k acc l ≠ []
  | [], acc, k => by rw [spl_nil]; simp
  | c :: r, acc, 0 => by
    show (if pre S (c :: r) = true then acc :: spl S (S.length - 1) [] r else spl S 0 (acc ++ [c]) r) ≠ []
    split
    · simp
    · exact spl_ne r _ 0
  | c :: r, acc, k + 1 => spl_ne r acc k
theorem lns_ne (l : List Nat) : lns l ≠ [] := spl_ne l [] 0
theorem spl_sep {s : Nat} {acc r : List Nat} : spl [s] 0 acc (s :: r) = acc :: spl [s] 0 [] r := by
  rw [spl_hit (by show ([s] == [s]) = true; simp)]
  rfl
theorem wds_nil : wds [] = [] := rfl
theorem wds_sp (l : List Nat) : wds (32 :: l) = wds l := by
  unfold wds
  rw [spl_sep]
  rfl
theorem wds_sps (k : Nat) (l : List Nat) : wds (List.replicate k 32 ++ l) = wds l := by
  induction k with
  | zero => rfl
  | succ k ih =>
    rw [List.replicate_succ, List.cons_append, wds_sp, ih]
theorem wds_word {w : List Nat} (hw : w ≠ []) (hs : 32 ∉ w) (l : List Nat) : wds (w ++ 32 :: l) = w :: wds l := by
  unfold wds
  have e : spl [32] 0 [] (w ++ ([32] ++ l)) = ([] ++ w) :: spl [32] 0 [] l := spl_part1 hs
  rw [List.singleton_append] at e
  rw [e, List.nil_append, List.filter_cons]
  cases w with
  | nil => exact absurd rfl hw
  | cons _ _ => rfl
theorem wds_last {w : List Nat} (hw : w ≠ []) (hs : 32 ∉ w) : wds w = [w] := by
  unfold wds
  rw [spl_last1 hs, List.nil_append]
  cases w with
  | nil => exact absurd rfl hw
  | cons _ _ => rfl
theorem wds_join : ∀ {ws : List (List Nat)}, (∀ w ∈ ws, w ≠ [] ∧ 32 ∉ w) → wds (joinL [32] ws) = ws
  | [], _ => rfl
  | [w], h => by
    obtain ⟨a, b⟩ := h w (List.mem_singleton.mpr rfl)
    exact wds_last a b
  | w :: v :: r, h => by
    obtain ⟨a, b⟩ := h w (List.mem_cons_self ..)
    show wds (w ++ ([32] ++ joinL [32] (v :: r))) = _
    rw [List.singleton_append, wds_word a b, wds_join fun x hx => h x (List.mem_cons_of_mem _ hx)]
/-! ### numbers -/
def digB (l : List Nat) : Bool := l.all fun c => decide (48 ≤ c) && decide (c ≤ 57)
theorem digB_iff {l : List Nat} : digB l = true ↔ AllDigits l := by
  unfold digB AllDigits
  simp only [List.all_eq_true, Bool.and_eq_true, decide_eq_true_eq]
def isNm (g : Nat) (l : List Nat) : Bool := (!decide ((numL g).length < l.length)) && (digB l && !l.isEmpty) && (decide (numL (digitsVal l) = l) && decide (digitsVal l ≤ g))
theorem numL_one {n : Nat} (h : n < 10) : (numL n).length = 1 := by
  rw [numL_lt h]
  rfl
theorem len_big : (numL (10 ^ 30)).length = 31 := by decide +kernel
/-- a number that is not too great -/
theorem isNm_num {g n : Nat} (hg : g = 10 ^ 30 ∨ g < 10) (h : n ≤ g) : isNm g (numL n) = true := by
  have hl : (numL n).length ≤ (numL g).length := by
    rcases hg with e | e
    · rw [e, len_big]
      refine numL_len (by decide) (Nat.lt_of_le_of_lt h ?_)
      rw [e]
      decide
    · rw [numL_one e, numL_one (by omega)]
      exact Nat.le_refl _
  unfold isNm
  rw [decide_eq_false (by omega), digB_iff.mpr (numL_digits n), numL_val, decide_eq_true rfl, decide_eq_true h]
  have : (numL n).isEmpty = false := by
    cases e : numL n with
    | nil => exact absurd e (numL_ne n)
    | cons _ _ => rfl
  rw [this]
  rfl
/-- only numbers are -/
theorem isNm_eq {g : Nat} {l : List Nat} (h : isNm g l = true) : l = numL (digitsVal l) ∧ digitsVal l ≤ g ∧ AllDigits l ∧ l ≠ [] ∧ l.length ≤ (numL g).length := by
  unfold isNm at h
  simp only [Bool.and_eq_true, decide_eq_true_eq, Bool.not_eq_true', decide_eq_false_iff_not] at h
  obtain ⟨⟨a, b, c⟩, d, e⟩ := h
  refine ⟨d.symm, e, digB_iff.mp b, ?_, by omega⟩
  intro z
  rw [z] at c
  cases c
theorem digitsVal_lt {l : List Nat} (h : AllDigits l) : digitsVal l < 10 ^ l.length := by
  have key : ∀ (l : List Nat) (a k : Nat), AllDigits l → a < 10 ^ k → l.foldl (fun acc c => acc * 10 + (c - 48)) a < 10 ^ (k + l.length) := by
    intro l
    induction l with
    | nil => intro a k _ ha; exact ha
    | cons c r ih =>
      intro a k hl ha
      have hc := hl.head
      rw [List.foldl_cons, List.length_cons]
      have e : k + (r.length + 1) = (k + 1) + r.length := by omega
      rw [e]
      refine ih _ _ hl.tail ?_
      rw [Nat.pow_succ]
      omega
  have := key l 0 0 h (by decide)
  rw [Nat.zero_add] at this
  exact this
/-! ### the lines of a text -/
def sHeaps : List Nat := [104, 101, 97, 112, 115]
def sStep : List Nat := [115, 116, 101, 112]
/-- the first number that cannot stand among heaps -/
def wrHs : List (List Nat) → Nat → Option Nat
  | [], _ => none
  | w :: r, i => if (decide (6 ≤ i) || !isNm (10 ^ 30) w) = true then some (i + 2) else wrHs r (i + 1)
def valsL (ws : List (List Nat)) : List Int := ws.tail.map fun w => ((digitsVal w : Nat) : Int)
/-- which word of a line of heaps cannot stand -/
def wrH (ws : List (List Nat)) : Option Nat :=
  if ws.headD [] ≠ sHeaps ∨ ws = [] then some 1
  else match wrHs ws.tail 0 with
    | some k => some k
    | none => if ws.length < 3 then some (ws.length + 1) else if (valsL ws).sum = 0 then some ws.length else none
def wrS (n : Nat) (ws : List (List Nat)) : Option Nat :=
  if ws.headD [] ≠ sStep ∨ ws = [] then some 1
  else if ws.length < 2 ∨ isNm (n - 1) (ws.getD 1 []) = false then some 2
  else if ws.length < 3 ∨ isNm (n - 1) (ws.getD 2 []) = false ∨ ws.getD 1 [] = ws.getD 2 [] then some 3
  else if 3 < ws.length then some 4 else none
inductive Rd where
  | bad (line word : Nat)
  | ok (ns : List Int) (ps : List (Nat × Nat))
def stepL (ws : List (List Nat)) : Nat × Nat := (digitsVal (ws.getD 1 []), digitsVal (ws.getD 2 []))
/-- the lines behind the first one: what is wrong, or the plan -/
def rdS (n : Nat) : List (List Nat) → Nat → List (Nat × Nat) → (Nat × Nat) ⊕ List (Nat × Nat)
  | [], _, acc => .inr acc
  | l :: r, i, acc => match (if 20000 ≤ i then some 1 else wrS n (wds l)) with
    | some w => .inl (i + 2, w)
    | none => rdS n r (i + 1) (acc ++ [stepL (wds l)])
def rdL (ls : List (List Nat)) : Rd := match wrH (wds (ls.headD [])) with
  | some w => .bad 1 w
  | none => match rdS (valsL (wds (ls.headD []))).length ls.tail 0 [] with
    | .inl (a, b) => .bad a b
    | .inr ps => .ok (valsL (wds (ls.headD []))) ps
/-! ### a good text -/
def rowH (ns : List Nat) : List (List Nat) := sHeaps :: ns.map numL
def rowS (p : Nat × Nat) : List (List Nat) := [sStep, numL p.1, numL p.2]
theorem wrHs_ok : ∀ (ns : List Nat) (i : Nat), (∀ n ∈ ns, n ≤ 10 ^ 30) → i + ns.length ≤ 6 → wrHs (ns.map numL) i = none
  | [], _, _, _ => rfl
  | n :: r, i, h, hi => by
    rw [List.length_cons] at hi
    show (if (decide (6 ≤ i) || !isNm (10 ^ 30) (numL n)) = true then some (i + 2) else wrHs (r.map numL) (i + 1)) = none
    rw [decide_eq_false (by omega), isNm_num (.inl rfl) (h n (List.mem_cons_self ..)), if_neg (by decide)]
    exact wrHs_ok r (i + 1) (fun m hm => h m (List.mem_cons_of_mem _ hm)) (by omega)
theorem valsL_row (ns : List Nat) : valsL (rowH ns) = ns.map (fun n : Nat => (n : Int)) := by
  unfold valsL rowH
  rw [List.tail_cons, List.map_map]
  refine List.map_congr_left fun n _ => ?_
  show ((digitsVal (numL n) : Nat) : Int) = _
  rw [numL_val]
theorem wrH_ok {ns : List Nat} (h : ∀ n ∈ ns, n ≤ 10 ^ 30) (h2 : 2 ≤ ns.length) (h6 : ns.length ≤ 6) (hs : (ns.map fun n : Nat => (n : Int)).sum ≠ 0) : wrH (rowH ns) = none := by
  unfold wrH
  have e1 : (rowH ns).headD [] = sHeaps := rfl
  have e2 : rowH ns ≠ [] := by simp [rowH]
  have e3 : (rowH ns).tail = ns.map numL := rfl
  have e4 : (rowH ns).length = ns.length + 1 := by simp [rowH]
  rw [if_neg (by rw [e1]; exact fun z => z.elim (fun q => q rfl) e2), e3, wrHs_ok ns 0 h (by omega)]
  show (if (rowH ns).length < 3 then _ else if (valsL (rowH ns)).sum = 0 then _ else none) = none
  rw [if_neg (by omega), valsL_row, if_neg hs]
theorem wrS_ok {n : Nat} {p : Nat × Nat} (hn : n ≤ 10) (h1 : p.1 < n) (h2 : p.2 < n) (h3 : p.1 ≠ p.2) : wrS n (rowS p) = none := by
  unfold wrS
  have e1 : (rowS p).headD [] = sStep := rfl
  have e2 : rowS p ≠ [] := by simp [rowS]
  have e3 : (rowS p).getD 1 [] = numL p.1 := rfl
  have e4 : (rowS p).getD 2 [] = numL p.2 := rfl
  have e5 : (rowS p).length = 3 := rfl
  rw [if_neg (by rw [e1]; exact fun z => z.elim (fun q => q rfl) e2), e3, e4, e5, isNm_num (.inr (by omega)) (by omega), isNm_num (.inr (by omega)) (by omega), if_neg (by simp), if_neg (by simp; exact fun z => h3 (numL_inj z)), if_neg (by decide)]
theorem stepL_row (p : Nat × Nat) : stepL (rowS p) = p := by
  unfold stepL
  have e3 : (rowS p).getD 1 [] = numL p.1 := rfl
  have e4 : (rowS p).getD 2 [] = numL p.2 := rfl
  rw [e3, e4, numL_val, numL_val]
/-- lines whose words are those of steps -/
theorem rdS_ok {n : Nat} (hn : n ≤ 10) : ∀ (ls : List (List Nat)) (ps : List (Nat × Nat)) (i : Nat) (acc : List (Nat × Nat)), ls.map wds = ps.map rowS → (∀ p ∈ ps, p.1 < n ∧ p.2 < n ∧ p.1 ≠ p.2) → i + ps.length ≤ 20000 → rdS n ls i acc = .inr (acc ++ ps)
  | [], [], i, acc, _, _, _ => by rw [List.append_nil]; rfl
  | [], p :: ps, _, _, e, _, _ => by simp at e
  | l :: ls, [], _, _, e, _, _ => by simp at e
  | l :: ls, p :: ps, i, acc, e, hp, hi => by
    rw [List.map_cons, List.map_cons] at e
    injection e with ea eb
    rw [List.length_cons] at hi
    obtain ⟨h1, h2, h3⟩ := hp p (List.mem_cons_self ..)
    show (match (if 20000 ≤ i then some 1 else wrS n (wds l)) with
      | some w => (Sum.inl (i + 2, w) : (Nat × Nat) ⊕ List (Nat × Nat))
      | none => rdS n ls (i + 1) (acc ++ [stepL (wds l)])) = _
    rw [if_neg (by omega), ea, wrS_ok hn h1 h2 h3, stepL_row]
    show rdS n ls (i + 1) (acc ++ [p]) = _
    rw [rdS_ok hn ls ps (i + 1) (acc ++ [p]) eb (fun q hq => hp q (List.mem_cons_of_mem _ hq)) (by omega), List.append_assoc]
    rfl
/-- a good text is read -/
theorem rdL_ok {ls : List (List Nat)} {ns : List Nat} {ps : List (Nat × Nat)} (e : ls.map wds = rowH ns :: ps.map rowS) (h : ∀ n ∈ ns, n ≤ 10 ^ 30) (h2 : 2 ≤ ns.length) (h6 : ns.length ≤ 6) (hs : (ns.map fun n : Nat => (n : Int)).sum ≠ 0)
    (hp : ∀ p ∈ ps, p.1 < ns.length ∧ p.2 < ns.length ∧ p.1 ≠ p.2) (hl : ps.length ≤ 20000) : rdL ls = .ok (ns.map (fun n : Nat => (n : Int))) ps := by
  cases ls with
  | nil => simp at e
  | cons l r =>
    rw [List.map_cons] at e
    injection e with ea eb
    unfold rdL
    have e1 : (l :: r).headD [] = l := rfl
    have e2 : (l :: r).tail = r := rfl
    rw [e1, e2, ea, wrH_ok h h2 h6 hs, valsL_row, List.length_map]
    show (match rdS ns.length r 0 [] with
      | .inl (a, b) => Rd.bad a b
      | .inr ps => Rd.ok _ ps) = _
    rw [rdS_ok (by omega) r ps 0 [] eb hp (by omega), List.nil_append]
end Hd
set_option maxHeartbeats 4000000
/-! Loose lines: spaces more than one, at the ends. -/
namespace Hd
open PySem PySem.Spec PyProof.Rows L2 _root_.TL NumText
theorem spl_mid {s : Nat} : ∀ (l acc r : List Nat), spl [s] 0 acc (l ++ s :: r) = spl [s] 0 acc l ++ spl [s] 0 [] r
  | [], acc, r => by
    rw [List.nil_append, spl_sep, spl_nil]
    rfl
  | c :: l, acc, r => by
    rw [List.cons_append]
    by_cases hc : c = s
    · subst hc
      rw [spl_sep, spl_sep, spl_mid l [] r, List.cons_append]
    · rw [spl_miss (pre_of_head _ _ hc), spl_miss (pre_of_head _ _ hc), spl_mid l _ r]
theorem wds_mid (l r : List Nat) : wds (l ++ 32 :: r) = wds l ++ wds r := by
  unfold wds
  rw [spl_mid, List.filter_append]
theorem wds_end (l : List Nat) (k : Nat) : wds (l ++ List.replicate k 32) = wds l := by
  cases k with
  | zero => rw [List.replicate_zero, List.append_nil]
  | succ k =>
    rw [List.replicate_succ, wds_mid]
    have := wds_sps k []
    rw [List.append_nil] at this
    rw [this, wds_nil, List.append_nil]
/-- a word more, with spaces behind it -/
theorem wds_more {l w : List Nat} {k : Nat} (hl : l = [] ∨ ∃ l', l = l' ++ [32]) (hw : w ≠ []) (hs : 32 ∉ w) : wds (l ++ w ++ List.replicate (k + 1) 32) = wds l ++ [w] := by
  rw [wds_end]
  rcases hl with rfl | ⟨l', rfl⟩
  · rw [List.nil_append, wds_last hw hs]
    rfl
  · rw [List.append_assoc, List.singleton_append, wds_mid, wds_last hw hs, wds_mid, wds_nil, List.append_nil]
/-- signs of a line -/
def Lc (c : Nat) : Prop := c = 32 ∨ (c ≠ 10 ∧ Unicode.isSpace c = false)
theorem rstrip_tl {x : Str} (h : ∀ c ∈ tl x, Lc c) : ∃ k, tl x = tl (Txt.rstrip x) ++ List.replicate k 32 := by
  have e : tl (Txt.rstrip x) = (tl x).take ((tl x).length - ((tl x).reverse.takeWhile Unicode.isSpace).length) := by
    unfold Txt.rstrip
    rw [PySem.W.stripBy_eq]
    show tl (Builtin.Str.strSub x 0 (x.length - (((x.cps.toList.drop 0).reverse.takeWhile Unicode.isSpace).length))) = _
    rw [tl_strSub, List.drop_zero, Nat.sub_zero, len_tl]
  have hsp : ∀ (l : List Nat), (∀ c ∈ l, Lc c) → l.takeWhile Unicode.isSpace = List.replicate (l.takeWhile Unicode.isSpace).length 32 := by
    intro l
    induction l with
    | nil => intro _; rfl
    | cons c r ih =>
      intro hl
      by_cases hc : Unicode.isSpace c = true
      · rw [List.takeWhile_cons_of_pos hc, List.length_cons, List.replicate_succ, ← ih fun d hd => hl d (List.mem_cons_of_mem _ hd)]
        rcases hl c (List.mem_cons_self ..) with z | z
        · rw [z]
        · rw [hc] at z
          cases z.2
      · rw [List.takeWhile_cons_of_neg hc]
        rfl
  refine ⟨((tl x).reverse.takeWhile Unicode.isSpace).length, ?_⟩
  rw [e]
  have h1 := hsp (tl x).reverse fun c hc => h c (List.mem_reverse.mp hc)
  have h2 := List.takeWhile_append_dropWhile (p := Unicode.isSpace) (l := (tl x).reverse)
  have h3 := congrArg List.reverse h2
  rw [List.reverse_append, List.reverse_reverse] at h3
  have key : ∀ (L T D : List Nat), D.reverse ++ T.reverse = L → D.reverse = L.take (L.length - T.length) := fun L T D e => by
    subst e
    have el : (D.reverse ++ T.reverse).length - T.length = D.reverse.length := by
      rw [List.length_append, List.length_reverse, List.length_reverse]
      omega
    rw [el, List.take_left]
  have h5 := key _ _ _ h3
  rw [← h5, ← List.reverse_replicate, ← h1]
  exact h3.symm
theorem Lc_num {n c : Nat} (h : c ∈ numL n) : Lc c := by
  have r := numL_digits n c h
  have : ∀ c, 48 ≤ c → c ≤ 57 → Unicode.isSpace c = false := by
    intro c h1 h2
    have : c = 48 ∨ c = 49 ∨ c = 50 ∨ c = 51 ∨ c = 52 ∨ c = 53 ∨ c = 54 ∨ c = 55 ∨ c = 56 ∨ c = 57 := by omega
    rcases this with e | e | e | e | e | e | e | e | e | e <;> subst e <;> decide +kernel
  exact .inr ⟨by omega, this c r.1 r.2⟩
theorem Lc_letters : ∀ c ∈ sHeaps ++ sStep, Unicode.isSpace c = false ∧ c ≠ 10 := by decide +kernel
end Hd
set_option maxHeartbeats 4000000
/-! Words and numbers of a text. -/
namespace Hd
open PySem PySem.Spec PyProof.Rows L2 _root_.TL NumText
theorem pe_gstr {X : Cx} {x : Str} {v : Str} {pos : Pos} (hg : Gl X x) (hm : ∃ t, X.mg x = some (.str v t)) (hd : (x == ("__debug__" : Str)) = false := by decide) : PE X (.Name x pos) (tC (.str v)) := by
  obtain ⟨t, hm⟩ := hm
  exact pe_glob hg hm ⟨t, rfl⟩ hd
structure TxtT (mg : Str → Option Value) : Prop extends Tp mg where
  c_HEAPS_WORD : ∃ t, mg "HEAPS_WORD" = some (.str "heaps" t)
  c_STEP_WORD : ∃ t, mg "STEP_WORD" = some (.str "step" t)
theorem tl_heaps : tl ("heaps" : Str) = sHeaps := by rw [tl_ofString]; rfl
theorem tl_step : tl ("step" : Str) = sStep := by rw [tl_ofString]; rfl
theorem tl_sp : tl (" " : Str) = [32] := by rw [tl_ofString]; rfl
theorem tl_nl : tl ("\n" : Str) = [10] := by rw [tl_ofString]; rfl
theorem tl_em : tl ("" : Str) = [] := by rw [tl_ofString]; rfl
theorem dec_str (a b : Str) : decide (V.str a = V.str b) = decide (tl a = tl b) := by
  by_cases z : tl a = tl b
  · have := ext_tl z
    subst this
    rw [decide_eq_true rfl, decide_eq_true rfl]
  · rw [decide_eq_false z, decide_eq_false fun q => z (by rw [V.str.inj q])]
/-- a list of words at l -/
structure WdL (K : PySem.W.Frag) (H : Hp) (l : Addr) (ws : List Str) : Prop where
  ls : H l = some (.lst (ws.map V.str))
theorem log_small {n : Int} (h0 : 0 ≤ n) (h : n < 10 ^ 31) : n.natAbs.log2 < 1920 := by
  by_cases z : n.natAbs = 0
  · rw [z]
    decide
  refine (Nat.log2_lt z).mpr ?_
  have : n.natAbs < 10 ^ 31 := by omega
  exact Nat.lt_of_lt_of_le this (by decide)
theorem num_small {n : Nat} (h : n ≤ 10 ^ 30) : ((n : Nat) : Int).natAbs.log2 < 1920 := log_small (by omega) (by have : n < 10 ^ 31 := Nat.lt_of_le_of_lt h (by decide); omega)
/-! ### the promises -/
def spIsNumber : Sp := fun vs H Q _ => ∃ (w : Str) (g : Nat), vs = [.str w, .int (g : Int)] ∧ g ≤ 10 ^ 30 ∧ w.length ≤ sizeLine ∧ Q (.bl (isNm g (tl w))) H
def spLine (K : PySem.W.Frag) : Sp := fun vs H Q _ => ∃ (w : Str) (t : Addr) (ns : List Nat), vs = [.str w, .ref t] ∧ SqT K H t (ns.map fun n : Nat => V.int (n : Int)) ∧ (∀ n ∈ ns, n ≤ 10 ^ 30) ∧ ns.length ≤ 6 ∧ w.length ≤ 10 ∧ ∀ x H', Same H H' → tl x = joinL [32] (tl w :: ns.map numL) → Q (.str x) H'
def spWords (K : PySem.W.Frag) : Sp := fun vs H Q _ => ∃ x : Str, vs = [.str x] ∧ x.length + 2 ≤ sizeLine ∧ ∀ (p : Addr) (ws : List Str) (H' : Hp), Same H H' → H p = none → H' p = some (.lst (ws.map V.str)) → ws.map tl = wds (tl x) → Q (.ref p) H'
/-- words that are numbers, but the first -/
def Nums (ws : List Str) : Prop := ∀ w ∈ ws.tail, AllDigits (tl w) ∧ tl w ≠ [] ∧ w.length ≤ 40
def spNums (K : PySem.W.Frag) : Sp := fun vs H Q _ => ∃ (l : Addr) (ws : List Str), vs = [.ref l] ∧ SqL K H l (ws.map V.str) ∧ Nums ws ∧ ws.length ≤ sizeLine ∧ ∀ (p : Addr) (H' : Hp), Same H H' → H p = none → H' p = some (.tup ((valsL (ws.map tl)).map V.int)) → Q (.ref p) H'
def oV : Option Nat → V
  | none => .non
  | some k => .int (k : Int)
def spWrongH (K : PySem.W.Frag) : Sp := fun vs H Q _ => ∃ (l : Addr) (ws : List Str), vs = [.ref l] ∧ SqL K H l (ws.map V.str) ∧ ws.length < sizeLine ∧ (∀ w ∈ ws, w.length ≤ sizeLine) ∧ ∀ H', Same H H' → Q (oV (wrH (ws.map tl))) H'
def spWrongS (K : PySem.W.Frag) : Sp := fun vs H Q _ => ∃ (n : Nat) (l : Addr) (ws : List Str), vs = [.int (n : Int), .ref l] ∧ 1 ≤ n ∧ n ≤ 6 ∧ SqL K H l (ws.map V.str) ∧ (∀ w ∈ ws, w.length ≤ sizeLine) ∧ Q (oV (wrS n (ws.map tl))) H
theorem isDig_ascii : ∀ c : Nat, c < 128 → Unicode.isDigit c = (decide (48 ≤ c) && decide (c ≤ 57)) := by decide +kernel
theorem dig_ascii {w : Str} (h : Txt.isascii w = true) : Txt.isdigit w = (digB (tl w) && !(tl w).isEmpty) := by
  unfold Txt.isascii at h
  unfold Txt.isdigit digB
  rw [Array.all_eq_true] at h
  have e1 : decide (w.length > 0) = !(tl w).isEmpty := by
    have := len_tl w
    cases e : tl w with
    | nil =>
      rw [e] at this
      rw [decide_eq_false (by rw [this]; simp)]
      rfl
    | cons a r =>
      rw [e] at this
      rw [decide_eq_true (by rw [this]; simp)]
      rfl
  have e2 : w.cps.all Unicode.isDigit = (tl w).all fun c => decide (48 ≤ c) && decide (c ≤ 57) := by
    rw [← Array.all_toList]
    have : ∀ c ∈ w.cps.toList, c < 128 := fun c hc => by
      obtain ⟨i, hi, e⟩ := List.mem_iff_getElem.mp hc
      have := h i (by simpa using hi)
      have e' : w.cps[i]'(by simpa using hi) = c := by simpa using e
      rw [e'] at this
      exact of_decide_eq_true this
    show w.cps.toList.all _ = w.cps.toList.all _
    generalize w.cps.toList = l at this
    induction l with
    | nil => rfl
    | cons a r ih =>
      rw [List.all_cons, List.all_cons, isDig_ascii a (this a (List.mem_cons_self ..)), ih fun c hc => this c (List.mem_cons_of_mem _ hc)]
  rw [e1, e2, Bool.and_comm]
theorem ascii_dig {w : Str} (h : AllDigits (tl w)) : Txt.isascii w = true := by
  unfold Txt.isascii
  rw [Array.all_eq_true]
  intro i hi
  have := h w.cps[i] (by rw [← Array.getElem_toList hi]; exact List.getElem_mem _)
  exact decide_eq_true (by omega)
section
variable {P : Program} {w : World} {K : PySem.W.Frag} {mg : Str → Option Value} {base : Heap}
abbrev s_is_number : Stmt := top 59
theorem sc_is_number : FnScope ["word", "greatest"] ["word", "greatest"] (defScope s_is_number) := ⟨rfl, rfl, rfl, by decide +kernel, rfl, by decide +kernel, by decide +kernel⟩
theorem ok_is_number {f : Addr} {fd : FuncData} (F : Fun K "is_number" "is_number" s_is_number f fd) (T : TxtT mg) : FnOk P w K mg base CX0 1 f fd ["word", "greatest"] spIsNumber := by
  refine F.ok sc_is_number (fun vs H Q E h => ?_) (fun cdv A outer s H vs Q E hr h => ?_)
  · obtain ⟨w, g, rfl, _⟩ := h
    rfl
  · obtain ⟨w, g, rfl, hg, hw, k⟩ := h
    refine ⟨_, (pss_cons (ps_if (PW.pt (pw_or (pt_cmpR op_gt (pe_callB call_len_str (by rfl) T.len PySem.boot_len (pa_cons (pv 0) pa_nil)) (pe_callB call_len_str (by rfl) T.len PySem.boot_len (pa_cons (pe_callTy call_str_int (by rfl) T.str (by decide +kernel) (pa_cons (pv 1) pa_nil)) pa_nil)) (nomark _)) (pw_or (pt_not (pt_val (pe_bm0 PySem.F.plainAttrs_str PySem.F.slot_str_isascii PySem.F.type_str_isascii mt_isascii (pv 0)))) (pw_or1 (pt_not (pt_val (pe_bm0 PySem.F.plainAttrs_str PySem.F.slot_str_isdigit PySem.F.type_str_isdigit mt_isdigit (pv 0)))))))) (pss_one (ps_ret pe_bl)) pss_nil)
      (pss_one (ps_ret (pe_and (pe_cmpR op_eq (pe_callTy call_str_int (by rfl) T.str (by decide +kernel) (pa_cons (pe_callTy call_int_str (by rfl) T.int (by decide +kernel) (pa_cons (pv 0) pa_nil)) pa_nil)) (pv 0) (nomark _)) (pe_one (pe_cmpR op_le (pe_callTy call_int_str (by rfl) T.int (by decide +kernel) (pa_cons (pv 0) pa_nil)) (pv 1) (nomark _))))))), ?_⟩
    have hgl : (numL g).length ≤ 31 := numL_len (by decide) (Nat.lt_of_le_of_lt hg (by decide))
    have eg := tl_num g
    have lg := len_tl (Str.ofString (toString ((g : Nat) : Int)))
    rw [eg] at lg
    refine ⟨_, rfl, _, rfl, hw, _, rfl, _, rfl, num_small hg, _, rfl, by rw [lg, sizeLine_eq]; omega, _, _, rfl, rfl, _, rfl, ?_⟩
    rw [lg, len_tl w]
    by_cases hc : (numL g).length < (tl w).length
    · rw [decide_eq_true (show ((numL g).length : Int) < ((tl w).length : Int) by omega)]
      have : isNm g (tl w) = false := by
        unfold isNm
        rw [decide_eq_true hc]
        rfl
      rw [this] at k
      exact iteT k
    · rw [decide_eq_false (show ¬ ((numL g).length : Int) < ((tl w).length : Int) by omega)]
      refine iteF ⟨_, rfl, rfl, _, rfl, rfl, trivial, _, rfl, ?_⟩
      cases ha : Txt.isascii w with
      | false =>
        have : isNm g (tl w) = false := by
          cases z : isNm g (tl w) with
          | false => rfl
          | true =>
            have := ascii_dig (isNm_eq z).2.2.1
            rw [ha] at this
            cases this
        rw [this] at k
        exact iteT k
      | true =>
        refine iteF ⟨_, rfl, rfl, _, rfl, rfl, trivial, _, rfl, ?_⟩
        have hd := dig_ascii ha
        cases hz : (digB (tl w) && !(tl w).isEmpty) with
        | false =>
          rw [hd, hz]
          have : isNm g (tl w) = false := by
            unfold isNm
            rw [hz, Bool.and_false, Bool.false_and]
          rw [this] at k
          exact iteT k
        | true =>
          rw [hd, hz]
          rw [Bool.and_eq_true] at hz
          have had := digB_iff.mp hz.1
          have hne : tl w ≠ [] := fun z => by
            rw [z] at hz
            cases hz.2
          have hwl : w.length ≤ 31 := by rw [len_tl]; omega
          have hv : intText? w = some ((digitsVal (tl w) : Nat) : Int) := intText_digits had hne (by omega)
          have hlt : digitsVal (tl w) < 10 ^ 31 := Nat.lt_of_lt_of_le (digitsVal_lt had) (Nat.pow_le_pow_right (by decide) (by omega))
          refine iteF ⟨_, rfl, _, _, rfl, hv, by omega, _, rfl, log_small (by omega) (by omega), _, rfl, rfl, ?_⟩
          rw [dec_str, tl_num]
          have em : isNm g (tl w) = (decide (numL (digitsVal (tl w)) = tl w) && decide (digitsVal (tl w) ≤ g)) := by
            unfold isNm
            rw [decide_eq_false hc, hz.1, hz.2]
            rfl
          rw [em] at k
          cases hq : decide (numL (digitsVal (tl w)) = tl w) with
          | false =>
            rw [hq] at k
            exact ⟨_, rfl, iteF k⟩
          | true =>
            rw [hq] at k
            refine ⟨_, rfl, iteT ⟨_, rfl, _, _, rfl, hv, by omega, _, rfl, _, _, rfl, rfl, ?_⟩⟩
            have : decide (((digitsVal (tl w) : Nat) : Int) ≤ (g : Int)) = decide (digitsVal (tl w) ≤ g) := by
              by_cases z : digitsVal (tl w) ≤ g
              · rw [decide_eq_true z, decide_eq_true (by omega)]
              · rw [decide_eq_false z, decide_eq_false (by omega)]
            show Q (V.bl (decide (((digitsVal (tl w) : Nat) : Int) ≤ (g : Int)))) H
            rw [this]
            exact k
abbrev s_words_of : Stmt := top 54
theorem sc_words_of : FnScope ["line", "word"] ["line"] (defScope s_words_of) := ⟨rfl, rfl, rfl, by decide +kernel, rfl, by decide +kernel, by decide +kernel⟩
theorem ok_words_of {f : Addr} {fd : FuncData} (F : Fun K "words_of" "words_of" s_words_of f fd) (T : TxtT mg) : FnOk P w K mg base CX0 1 f fd ["line"] (spWords K) := by
  refine F.ok sc_words_of (fun vs H Q E h => ?_) (fun cdv A outer s H vs Q E hr h => ?_)
  · obtain ⟨x, rfl, _⟩ := h
    rfl
  · obtain ⟨x, rfl, hx, k⟩ := h
    refine ⟨_, (pss_one (ps_ret (pe_lc (own := [("word", 1)]) (g := gName 1) (by rfl) sc_words_of.nd (pi_list (pe_split (pv 0) pe_str)) (blkOk_by (own := [("word", 1)]) (N := ["line", "word"]) (sc := defScope s_words_of) (by decide +kernel)) (fun _ _ _ _ _ => pg_name (i := 1) sc_words_of.nd rfl (Or.inl rfl)) (fun _ _ _ _ _ => pts_one (pt_cmpR op_ne (pv 1) pe_str (nomark _))) (fun _ _ _ _ _ => (pv 1))))), ?_⟩
    have hsp : ((" " : Str).length == 0) = false := by rw [len_tl, tl_sp]; rfl
    refine ⟨_, rfl, ⟨_, rfl⟩, _, _, rfl, rfl, hsp, hx, fun p hp => ?_⟩
    have es := split_spl x (" " : Str) (by rw [tl_sp]; simp) (kind_ok (by decide +kernel))
    rw [tl_sp] at es
    have hpl : (upd H p (.lst ((Txt.split x (" " : Str)).map V.str))) p = some (.lst ((Txt.split x (" " : Str)).map V.str)) := upd_same
    have s1 : Same H (upd H p (.lst ((Txt.split x (" " : Str)).map V.str))) := Same.new hp
    generalize Txt.split x (" " : Str) = ws at es hpl s1 ⊢
    generalize upd H p (.lst (ws.map V.str)) = H1 at hpl s1 ⊢
    refine ⟨p, rfl, ⟨_, SqL.of hpl⟩, fun D hD => lc_list (K := K) (a := p) (xs := ws.map V.str) (fun i H2 => H2 D = some (.lst (((ws.take i).filter fun w => !(tl w).isEmpty).map V.str)) ∧ Same H1 H2) ⟨upd_same, Same.new hD⟩ (fun i H2 _ q => SqL.of (q.2 _ _ hpl)) ?_ ?_⟩
    · rintro i y H2 hi ⟨hL, s2⟩
      rw [List.getElem?_map] at hi
      obtain ⟨w, hw, rfl⟩ := Option.map_eq_some_iff.mp hi
      refine ⟨rfl, _, rfl, rfl, _, rfl, ?_⟩
      rw [dec_str, tl_em]
      have nx := filter_take (p := fun w : Str => !(tl w).isEmpty) hw
      by_cases h0 : tl w = []
      · rw [decide_eq_true h0]
        refine iteF ⟨?_, s2⟩
        rw [nx, if_neg (by rw [h0]; decide), List.append_nil]
        exact hL
      · rw [decide_eq_false h0]
        refine iteT ⟨_, rfl, _, hL, ?_, ?_, same_upd s2 hD⟩
        · have hil : i < ws.length := (List.getElem?_eq_some_iff.mp hw).1
          have h1 := List.length_filter_le (fun w : Str => !(tl w).isEmpty) (ws.take i)
          rw [List.length_take] at h1
          have hwl : ws.length ≤ x.length + 1 := by
            have e := congrArg List.length es
            rw [List.length_map] at e
            rw [e, len_tl x]
            have key : ∀ (l acc : List Nat), (spl [32] 0 acc l).length ≤ l.length + 1 := by
              intro l
              induction l with
              | nil => intro acc; rw [spl_nil]; simp
              | cons c r ih =>
                intro acc
                by_cases hc : c = 32
                · subst hc
                  rw [spl_sep, List.length_cons, List.length_cons]
                  have := ih []
                  omega
                · rw [spl_miss (pre_of_head _ _ hc), List.length_cons]
                  have := ih (acc ++ [c])
                  omega
            exact key _ _
          rw [List.length_map]
          omega
        · have hne : (!(tl w).isEmpty) = true := by
            cases e : tl w with
            | nil => exact absurd e h0
            | cons _ _ => rfl
          rw [upd_same, nx, if_pos hne, List.map_append]
          rfl
    · rintro H2 ⟨hL, s2⟩
      rw [List.length_map, List.take_length] at hL
      refine k D _ H2 (s1.trans s2) (s1.free hD) hL ?_
      unfold wds
      rw [← es, List.filter_map]
      rfl
end
end Hd
set_option maxHeartbeats 4000000
/-! What cannot stand in a line. -/
namespace Hd
open PySem PySem.Spec PyProof.Rows L2 _root_.TL NumText
theorem cut_tail (xs : List V) : cutV xs (some 1) none = xs.tail := by
  unfold cutV
  rw [HT.sIx_none, show (some (1 : Int)) = some ((1 : Nat) : Int) from rfl, HT.sIx_nat]
  cases xs with
  | nil => rfl
  | cons x r =>
    rw [List.length_cons, Nat.min_eq_left (by omega), List.drop_one, List.tail_cons]
    exact List.take_of_length_le (by omega)
theorem str_at {ws : List Str} {i : Nat} {x : V} (h : (ws.map V.str)[i]? = some x) : ∃ w, ws[i]? = some w ∧ x = .str w := by
  rw [List.getElem?_map] at h
  obtain ⟨w, h1, h2⟩ := Option.map_eq_some_iff.mp h
  exact ⟨w, h1, h2.symm⟩
/-- the numbers among the first words -/
theorem wrHs_step {ws : List (List Nat)} {i : Nat} {w : List Nat} {j : Nat} (h : ws[i]? = some w) : wrHs (ws.drop i) (i + j) = (if (decide (6 ≤ i + j) || !isNm (10 ^ 30) w) = true then some (i + j + 2) else wrHs (ws.drop (i + 1)) (i + j + 1)) := by
  obtain ⟨hi, e⟩ := List.getElem?_eq_some_iff.mp h
  rw [List.drop_eq_getElem_cons hi, e]
  rfl
/-- no word wrong: all are numbers -/
theorem wrHs_none : ∀ (ws : List (List Nat)) (i : Nat), wrHs ws i = none → (∀ w ∈ ws, isNm (10 ^ 30) w = true) ∧ i + ws.length ≤ max i 6
  | [], i, _ => ⟨fun w hw => (nomatch hw), by simp; omega⟩
  | w :: r, i, h => by
    have h' : (if (decide (6 ≤ i) || !isNm (10 ^ 30) w) = true then some (i + 2) else wrHs r (i + 1)) = none := h
    by_cases c : (decide (6 ≤ i) || !isNm (10 ^ 30) w) = true
    · rw [if_pos c] at h'
      cases h'
    · rw [if_neg c] at h'
      obtain ⟨a, b⟩ := wrHs_none r (i + 1) h'
      rw [Bool.or_eq_true, decide_eq_true_eq, Bool.not_eq_true'] at c
      have c1 : ¬ 6 ≤ i := fun z => c (.inl z)
      have c2 : isNm (10 ^ 30) w = true := by
        cases z : isNm (10 ^ 30) w with
        | true => rfl
        | false => exact absurd (.inr z) c
      refine ⟨fun v hv => ?_, ?_⟩
      · rcases List.mem_cons.mp hv with e | hv
        · rw [e]
          exact c2
        · exact a v hv
      · rw [List.length_cons]
        omega
theorem nums_of {ws : List Str} (h : ∀ w ∈ (ws.map tl).tail, isNm (10 ^ 30) w = true) : Nums ws := fun w hw => by
  have hm : tl w ∈ (ws.map tl).tail := by
    rw [← List.map_tail]
    exact List.mem_map.mpr ⟨w, hw, rfl⟩
  obtain ⟨_, _, a, b, c⟩ := isNm_eq (h _ hm)
  refine ⟨a, b, ?_⟩
  rw [len_big] at c
  rw [len_tl]
  omega
section
variable {P : Program} {w : World} {K : PySem.W.Frag} {mg : Str → Option Value} {base : Heap}
abbrev s_numbers_behind : Stmt := top 55
theorem sc_numbers_behind : FnScope ["words", "word"] ["words"] (defScope s_numbers_behind) := ⟨rfl, rfl, rfl, by decide +kernel, rfl, by decide +kernel, by decide +kernel⟩
theorem ok_numbers_behind {f : Addr} {fd : FuncData} (F : Fun K "numbers_behind" "numbers_behind" s_numbers_behind f fd) (T : TxtT mg) : FnOk P w K mg base CX0 1 f fd ["words"] (spNums K) := by
  refine F.ok sc_numbers_behind (fun vs H Q E h => ?_) (fun cdv A outer s H vs Q E hr h => ?_)
  · obtain ⟨l, ws, rfl, _⟩ := h
    rfl
  · obtain ⟨l, ws, rfl, hS, hN, hl, k⟩ := h
    refine ⟨_, (pss_one (ps_ret (pe_callTy call_tuple_of (by rfl) T.tuple (by decide +kernel) (pa_cons (pe_lc (own := [("word", 1)]) (g := gName 1) (by rfl) sc_numbers_behind.nd (pi_list (pe_slice sl_list (pv 0) (po_some pe_int) po_none)) (blkOk_by (own := [("word", 1)]) (N := ["words", "word"]) (sc := defScope s_numbers_behind) (by decide +kernel)) (fun _ _ _ _ _ => pg_name (i := 1) sc_numbers_behind.nd rfl (Or.inl rfl)) (fun _ _ _ _ _ => pts_nil) (fun _ _ _ _ _ => (pe_callTy call_int_str (by rfl) T.int (by decide +kernel) (pa_cons (pv 1) pa_nil)))) pa_nil)))), ?_⟩
    refine ⟨_, rfl, _, rfl, l, _, rfl, hS, fun p hp => ?_⟩
    rw [cut_tail, ← List.map_tail]
    have s1 : Same H (upd H p (.lst (ws.tail.map V.str))) := Same.new hp
    have hp1 : (upd H p (.lst (ws.tail.map V.str))) p = some (.lst (ws.tail.map V.str)) := upd_same
    have hN' : ∀ w ∈ ws.tail, AllDigits (tl w) ∧ tl w ≠ [] ∧ w.length ≤ 40 := hN
    have htl : ws.tail.length ≤ sizeLine := by rw [List.length_tail]; omega
    have ev : valsL (ws.map tl) = ws.tail.map fun w => ((digitsVal (tl w) : Nat) : Int) := by
      unfold valsL
      rw [← List.map_tail, List.map_map]
      rfl
    rw [ev] at k
    generalize ws.tail = us at hN' htl hp1 s1 k ⊢
    generalize upd H p (.lst (us.map V.str)) = H1 at hp1 s1 ⊢
    refine ⟨p, rfl, ⟨_, SqL.of hp1⟩, fun D hD => lc_list (K := K) (a := p) (xs := us.map V.str) (fun i H2 => H2 D = some (.lst (((us.take i).map fun w => ((digitsVal (tl w) : Nat) : Int)).map V.int)) ∧ Same H1 H2) ⟨upd_same, Same.new hD⟩ (fun i H2 _ q => SqL.of (q.2 _ _ hp1)) ?_ ?_⟩
    · rintro i y H2 hi ⟨hL, s2⟩
      obtain ⟨w, hw, rfl⟩ := str_at hi
      obtain ⟨h1, h2, h3⟩ := hN' w (List.mem_of_getElem? hw)
      refine ⟨rfl, _, rfl, _, _, rfl, intText_digits h1 h2 (by omega), by omega, _, hL, ?_, ?_, same_upd s2 hD⟩
      · have hil : i < us.length := (List.getElem?_eq_some_iff.mp hw).1
        rw [List.length_map, List.length_map, List.length_take]
        omega
      · rw [upd_same, map_take hw, List.map_append]
        rfl
    · rintro H2 ⟨hL, s2⟩
      rw [List.length_map, List.take_length] at hL
      refine ⟨D, _, rfl, .inl ⟨SqL.of hL, fun q hq => k q _ ((s1.trans s2).trans (Same.new hq)) ((s1.trans s2).free hq) upd_same⟩⟩
abbrev s_wrong_in_heaps : Stmt := top 57
theorem sc_wrong_in_heaps : FnScope ["words", "index", "word"] ["words"] (defScope s_wrong_in_heaps) := ⟨rfl, rfl, rfl, by decide +kernel, rfl, by decide +kernel, by decide +kernel⟩
theorem ok_wrong_in_heaps {f : Addr} {fd : FuncData} (F : Fun K "wrong_in_heaps" "wrong_in_heaps" s_wrong_in_heaps f fd) (T : TxtT mg) (C_is_number : Cal P w K mg base CX0 1 "is_number" ["word", "greatest"] spIsNumber) (C_numbers_behind : Cal P w K mg base CX0 1 "numbers_behind" ["words"] (spNums K)) : FnOk P w K mg base CX0 2 f fd ["words"] (spWrongH K) := by
  refine F.ok sc_wrong_in_heaps (fun vs H Q E h => ?_) (fun cdv A outer s H vs Q E hr h => ?_)
  · obtain ⟨l, ws, rfl, _⟩ := h
    rfl
  · obtain ⟨l, ws, rfl, hS, hl, hwl, k⟩ := h
    refine ⟨_, (pss_cons (ps_if (PW.pt (pw_or (pt_cmpR op_eq (pe_callB call_len_seq (by rfl) T.len PySem.boot_len (pa_cons (pv 0) pa_nil)) pe_int (nomark _)) (pw_or1 (pt_cmpR op_ne (pe_ix ix_list (pv 0) pe_int (fun _ _ => rfl)) (pe_gstr rfl T.c_HEAPS_WORD) (nomark _))))) (pss_one (ps_ret pe_int)) pss_nil)
      (pss_cons (ps_for PassesOwn.never rfl (pi_enum (by rfl) T.enumerate (pa_cons (pe_slice sl_list (pv 0) (po_some pe_int) po_none) pa_nil)) (pg_tup rfl (pgs_cons (pg_name (i := 1) sc_wrong_in_heaps.nd rfl (Or.inl rfl)) (pgs_cons (pg_name (i := 2) sc_wrong_in_heaps.nd rfl (Or.inl rfl)) pgs_nil)))
      (pss_one (ps_if (PW.pt (pw_or (pt_cmpR op_ge (pv 1) (pe_gint rfl T.c_MOST_HEAPS) (nomark _)) (pw_or1 (pt_not (pt_val (pe_cal C_is_number hr rfl pass0 (pa_cons (pv 2) (pa_cons (pe_gint rfl T.c_GREATEST) pa_nil)))))))) (pss_one (ps_ret (pe_op op_add (pv 1) pe_int))) pss_nil)))
      (pss_cons (ps_if (pt_cmpR op_lt (pe_op op_sub (pe_callB call_len_seq (by rfl) T.len PySem.boot_len (pa_cons (pv 0) pa_nil)) pe_int) (pe_gint rfl T.c_FEWEST_HEAPS) (nomark _)) (pss_one (ps_ret (pe_op op_add (pe_callB call_len_seq (by rfl) T.len PySem.boot_len (pa_cons (pv 0) pa_nil)) pe_int))) pss_nil)
      (pss_one (ps_ret (pe_ifExp (pt_cmpR op_eq (pe_callB (cr_sumT rfl) (by rfl) T.sum (by decide +kernel) (pa_cons (pe_cal C_numbers_behind hr rfl pass0 (pa_cons (pv 0) pa_nil)) pa_nil)) pe_int (nomark _)) (pe_callB call_len_seq (by rfl) T.len PySem.boot_len (pa_cons (pv 0) pa_nil)) pe_non)))))), ?_⟩
    refine ⟨_, rfl, l, _, rfl, .inl hS, rfl, _, rfl, ?_⟩
    unfold wrH at k
    by_cases h0 : ws = []
    · subst h0
      exact ifT (by rw [dec_int, List.length_map]; exact decide_eq_true rfl) (k H (Same.refl _))
    have hl0 : 0 < ws.length := List.length_pos_iff.mpr h0
    obtain ⟨w0, r, rfl⟩ : ∃ w0 r, ws = w0 :: r := by
      cases ws with
      | nil => exact absurd rfl h0
      | cons a b => exact ⟨a, b, rfl⟩
    refine ifF (by rw [dec_int, List.length_map]; exact decide_eq_false (by omega)) ?_
    refine ⟨_, rfl, l, _, _, .str w0, rfl, rfl, hS, at_of (j := 0) rfl (show (List.map V.str (w0 :: r))[0]? = some (V.str w0) from rfl), rfl, _, rfl, ?_⟩
    rw [dec_str, tl_heaps]
    have eh : ((w0 :: r).map tl).headD [] = tl w0 := rfl
    have en : ((w0 :: r).map tl) ≠ [] := by simp
    have et : ((w0 :: r).map tl).tail = r.map tl := rfl
    rw [eh, et] at k
    by_cases hh : tl w0 = sHeaps
    · rw [decide_eq_true hh]
      rw [if_neg (fun z => z.elim (fun q => q hh) en)] at k
      refine iteF ?_
      refine ⟨_, rfl, _, rfl, l, _, rfl, hS, fun p hp => ?_⟩
      rw [cut_tail]
      have s1 : Same H (upd H p (.lst ((((w0 :: r).map V.str).tail)))) := Same.new hp
      have hp1 : (upd H p (.lst ((((w0 :: r).map V.str).tail)))) p = some (.lst (r.map V.str)) := upd_same
      generalize upd H p (.lst ((((w0 :: r).map V.str).tail))) = H1 at hp1 s1 ⊢
      rw [List.length_cons] at hl
      refine ⟨p, _, rfl, SqL.of hp1, for_it (walk_enum (K := K) (a := p) (xs := r.map V.str)) (fun i σ H2 => ∃ v1 v2 : Option V, σ = [some (.ref l), v1, v2] ∧ Same H1 H2 ∧ wrHs (r.map tl) 0 = wrHs ((r.map tl).drop i) i) ⟨none, none, rfl, Same.refl _, rfl⟩ (fun i σ H2 _ ⟨_, _, _, s2, _⟩ => SqL.of (s2 _ _ hp1)) ?_ ?_⟩
      · rintro i x σ H2 H3 hi ⟨v1, v2, rfl, s2, hw⟩ ⟨TT, x1, x2, rfl, hTT, rfl, e1, e2⟩
        have e1' := Option.some.inj e1
        subst e1'
        obtain ⟨wd, hwd, rfl⟩ := str_at e2
        rw [List.length_map] at hi
        have s3 : Same H2 (upd H2 TT (.tup [.int (i : Nat), .str wd])) := Same.new hTT
        refine ⟨TT, _, rfl, SqT.of upd_same, rfl, _, _, rfl, _, _, rfl, rfl, ?_⟩
        refine ⟨_, rfl, _, _, rfl, rfl, _, rfl, ?_⟩
        have hwm : (r.map tl)[i]? = some (tl wd) := by rw [List.getElem?_map, hwd]; rfl
        have hst := wrHs_step (j := 0) hwm
        rw [Nat.add_zero] at hst
        rw [hst] at hw
        by_cases h6 : 6 ≤ i
        · rw [decide_eq_true (show (6 : Int) ≤ ((i : Nat) : Int) by omega)]
          rw [decide_eq_true h6, if_pos (by simp)] at hw
          rw [hw] at k
          refine iteT ⟨_, rfl, _, _, rfl, rfl, ?_⟩
          exact k _ ((s1.trans s2).trans s3)
        · rw [decide_eq_false (show ¬ (6 : Int) ≤ ((i : Nat) : Int) by omega)]
          have hwd' : wd.length ≤ sizeLine := hwl wd (List.mem_cons_of_mem _ (List.mem_of_getElem? hwd))
          refine iteF ⟨_, rfl, wd, 10 ^ 30, rfl, Nat.le_refl _, hwd', _, rfl, ?_⟩
          rw [decide_eq_false h6] at hw
          cases hn : isNm (10 ^ 30) (tl wd) with
          | false =>
            rw [hn, if_pos (by decide)] at hw
            rw [hw] at k
            refine iteT ⟨_, rfl, _, _, rfl, rfl, ?_⟩
            exact k _ ((s1.trans s2).trans s3)
          | true =>
            rw [hn, if_neg (by decide)] at hw
            exact iteF ⟨_, _, rfl, s2.trans s3, hw⟩
      · rintro σ H2 ⟨v1, v2, rfl, s2, hw⟩
        rw [List.length_map] at hw
        have hnone : wrHs (r.map tl) 0 = none := by
          rw [hw, List.drop_of_length_le (by rw [List.length_map]; exact Nat.le_refl _)]
          rfl
        rw [hnone] at k
        have hS2 := (s1.trans s2).seq hS
        simp only at k
        refine ⟨_, rfl, l, _, rfl, .inl hS2, _, _, rfl, rfl, _, _, rfl, rfl, _, rfl, ?_⟩
        rw [List.length_map] at k ⊢
        rw [List.length_cons] at k ⊢
        by_cases h3 : r.length + 1 < 3
        · rw [decide_eq_true (show ((r.length + 1 : Nat) : Int) - 1 < 2 by omega)]
          rw [if_pos h3] at k
          refine iteT ⟨_, rfl, l, _, rfl, .inl hS2, _, _, rfl, rfl, ?_⟩
          rw [List.length_map, List.length_cons]
          exact k _ (s1.trans s2)
        · rw [decide_eq_false (show ¬ ((r.length + 1 : Nat) : Int) - 1 < 2 by omega)]
          rw [if_neg h3] at k
          obtain ⟨hall, hlen⟩ := wrHs_none _ _ hnone
          have hN : Nums (w0 :: r) := nums_of hall
          refine iteF ⟨_, rfl, l, _, rfl, hS2, hN, by rw [List.length_cons]; omega, fun q H3 s3 hq hq3 => ?_⟩
          refine ⟨q, _, rfl, SqT.of hq3, rfl, _, rfl, ?_⟩
          rw [dec_int]
          by_cases hz : (valsL ((w0 :: r).map tl)).sum = 0
          · rw [decide_eq_true hz]
            rw [if_pos hz] at k
            refine iteT ⟨_, rfl, l, _, rfl, .inl (s3.seq hS2), ?_⟩
            rw [List.length_map, List.length_cons]
            exact k _ ((s1.trans s2).trans s3)
          · rw [decide_eq_false hz]
            rw [if_neg hz] at k
            exact iteF (k _ ((s1.trans s2).trans s3))
    · rw [decide_eq_false hh]
      rw [if_pos (.inl hh)] at k
      exact iteT (k H (Same.refl _))
abbrev s_wrong_in_step : Stmt := top 58
theorem sc_wrong_in_step : FnScope ["many", "words"] ["many", "words"] (defScope s_wrong_in_step) := ⟨rfl, rfl, rfl, by decide +kernel, rfl, by decide +kernel, by decide +kernel⟩
theorem ok_wrong_in_step {f : Addr} {fd : FuncData} (F : Fun K "wrong_in_step" "wrong_in_step" s_wrong_in_step f fd) (T : TxtT mg) (C_is_number : Cal P w K mg base CX0 1 "is_number" ["word", "greatest"] spIsNumber) : FnOk P w K mg base CX0 2 f fd ["many", "words"] (spWrongS K) := by
  refine F.ok sc_wrong_in_step (fun vs H Q E h => ?_) (fun cdv A outer s H vs Q E hr h => ?_)
  · obtain ⟨n, l, ws, rfl, _⟩ := h
    rfl
  · obtain ⟨n, l, ws, rfl, h1, h6, hS, hwl, k⟩ := h
    refine ⟨_, (pss_cons (ps_if (PW.pt (pw_or (pt_cmpR op_eq (pe_callB call_len_seq (by rfl) T.len PySem.boot_len (pa_cons (pv 1) pa_nil)) pe_int (nomark _)) (pw_or1 (pt_cmpR op_ne (pe_ix ix_list (pv 1) pe_int (fun _ _ => rfl)) (pe_gstr rfl T.c_STEP_WORD) (nomark _))))) (pss_one (ps_ret pe_int)) pss_nil)
      (pss_cons (ps_if (PW.pt (pw_or (pt_cmpR op_lt (pe_callB call_len_seq (by rfl) T.len PySem.boot_len (pa_cons (pv 1) pa_nil)) pe_int (nomark _)) (pw_or1 (pt_not (pt_val (pe_cal C_is_number hr rfl pass0 (pa_cons (pe_ix ix_list (pv 1) pe_int (fun _ _ => rfl)) (pa_cons (pe_op op_sub (pv 0) pe_int) pa_nil)))))))) (pss_one (ps_ret pe_int)) pss_nil)
      (pss_cons (ps_if (PW.pt (pw_or (pt_cmpR op_lt (pe_callB call_len_seq (by rfl) T.len PySem.boot_len (pa_cons (pv 1) pa_nil)) pe_int (nomark _)) (pw_or (pt_not (pt_val (pe_cal C_is_number hr rfl pass0 (pa_cons (pe_ix ix_list (pv 1) pe_int (fun _ _ => rfl)) (pa_cons (pe_op op_sub (pv 0) pe_int) pa_nil))))) (pw_or1 (pt_cmpR op_eq (pe_ix ix_list (pv 1) pe_int (fun _ _ => rfl)) (pe_ix ix_list (pv 1) pe_int (fun _ _ => rfl)) (nomark _)))))) (pss_one (ps_ret pe_int)) pss_nil)
      (pss_one (ps_ret (pe_ifExp (pt_cmpR op_gt (pe_callB call_len_seq (by rfl) T.len PySem.boot_len (pa_cons (pv 1) pa_nil)) pe_int (nomark _)) pe_int pe_non)))))), ?_⟩
    refine ⟨_, rfl, l, _, rfl, .inl hS, rfl, _, rfl, ?_⟩
    unfold wrS at k
    by_cases h0 : ws = []
    · subst h0
      exact ifT (by rw [dec_int, List.length_map]; exact decide_eq_true rfl) k
    have hl0 : 0 < ws.length := List.length_pos_iff.mpr h0
    obtain ⟨w0, r, rfl⟩ : ∃ w0 r, ws = w0 :: r := by
      cases ws with
      | nil => exact absurd rfl h0
      | cons a b => exact ⟨a, b, rfl⟩
    refine ifF (by rw [dec_int, List.length_map]; exact decide_eq_false (by omega)) ?_
    refine ⟨_, rfl, l, _, _, .str w0, rfl, rfl, hS, at_of (j := 0) rfl (show (List.map V.str (w0 :: r))[0]? = some (V.str w0) from rfl), rfl, _, rfl, ?_⟩
    rw [dec_str, tl_step]
    have eh : ((w0 :: r).map tl).headD [] = tl w0 := rfl
    have en : ((w0 :: r).map tl) ≠ [] := by simp
    have g1 : ∀ {w : Str} {q : List Str}, r = w :: q → ((w0 :: r).map tl).getD 1 [] = tl w := fun e => by rw [e]; rfl
    rw [eh] at k
    by_cases hh : tl w0 = sStep
    · rw [decide_eq_true hh]
      rw [if_neg (fun z => z.elim (fun q => q hh) en)] at k
      refine iteF ?_
      refine ⟨_, rfl, l, _, rfl, .inl hS, _, _, rfl, rfl, _, rfl, ?_⟩
      rw [List.length_map] at k ⊢
      cases r with
      | nil =>
        rw [if_pos (.inl (by simp))] at k
        exact ifT (decide_eq_true (by simp)) k
      | cons w1 r =>
        have e1 : ((w0 :: w1 :: r).map tl).getD 1 [] = tl w1 := rfl
        rw [e1] at k
        rw [decide_eq_false (by rw [List.length_cons, List.length_cons]; omega)]
        have hw1 : w1.length ≤ sizeLine := hwl w1 (by simp)
        have en1 : ((n : Int) - 1) = ((n - 1 : Nat) : Int) := by omega
        refine iteF ⟨_, rfl, l, _, _, .str w1, rfl, rfl, hS, at_of (j := 1) rfl rfl, _, rfl, _, _, rfl, rfl, w1, n - 1, (show [V.str w1, V.int ((n : Int) - 1)] = _ by rw [en1]), by omega, hw1, _, rfl, ?_⟩
        cases hn1 : isNm (n - 1) (tl w1) with
        | false =>
          rw [if_pos (.inr hn1)] at k
          exact iteT k
        | true =>
          rw [if_neg (fun z => z.elim (fun q => by rw [List.length_cons, List.length_cons] at q; omega) fun q => by rw [hn1] at q; cases q)] at k
          refine iteF ?_
          refine ⟨_, rfl, l, _, rfl, .inl hS, _, _, rfl, rfl, _, rfl, ?_⟩
          rw [List.length_map]
          cases r with
          | nil =>
            rw [if_pos (.inl (by simp))] at k
            exact ifT (decide_eq_true (by simp)) k
          | cons w2 r =>
            have e2 : ((w0 :: w1 :: w2 :: r).map tl).getD 2 [] = tl w2 := rfl
            rw [e2] at k
            rw [decide_eq_false (by rw [List.length_cons, List.length_cons, List.length_cons]; omega)]
            have hw2 : w2.length ≤ sizeLine := hwl w2 (by simp)
            refine iteF ⟨_, rfl, l, _, _, .str w2, rfl, rfl, hS, at_of (j := 2) rfl rfl, _, rfl, _, _, rfl, rfl, w2, n - 1, (show [V.str w2, V.int ((n : Int) - 1)] = _ by rw [en1]), by omega, hw2, _, rfl, ?_⟩
            cases hn2 : isNm (n - 1) (tl w2) with
            | false =>
              rw [if_pos (.inr (.inl hn2))] at k
              exact iteT k
            | true =>
              refine iteF ⟨_, rfl, l, _, _, .str w1, rfl, rfl, hS, at_of (j := 1) rfl rfl, _, rfl, l, _, _, .str w2, rfl, rfl, hS, at_of (j := 2) rfl rfl, rfl, _, rfl, ?_⟩
              rw [dec_str]
              by_cases he : tl w1 = tl w2
              · rw [decide_eq_true he]
                rw [if_pos (.inr (.inr he))] at k
                exact iteT k
              · rw [decide_eq_false he]
                rw [if_neg (fun z => z.elim (fun q => by rw [List.length_cons, List.length_cons, List.length_cons] at q; omega) fun q => q.elim (fun q => by rw [hn2] at q; cases q) he)] at k
                refine iteF ⟨_, rfl, l, _, rfl, .inl hS, _, _, rfl, rfl, _, rfl, ?_⟩
                rw [List.length_map]
                by_cases h3 : 3 < (w0 :: w1 :: w2 :: r).length
                · rw [decide_eq_true (show (3 : Int) < (((w0 :: w1 :: w2 :: r).length : Nat) : Int) by omega)]
                  rw [if_pos h3] at k
                  exact iteT k
                · rw [decide_eq_false (show ¬ (3 : Int) < (((w0 :: w1 :: w2 :: r).length : Nat) : Int) by omega)]
                  rw [if_neg h3] at k
                  exact iteF k
    · rw [decide_eq_false hh]
      rw [if_pos (.inl hh)] at k
      exact iteT k
end
end Hd
set_option maxHeartbeats 4000000
/-! A text is read, or refused; a text is written. -/
namespace Hd
open PySem PySem.Spec PyProof.Rows L2 _root_.TL NumText
/-! ### the error with its two fields -/
def spItInit (K : PySem.W.Frag) : Sp := fun vs H Q _ => ∃ (a C : Addr) (v u : V), vs = [.ref a, v, u] ∧ OexC K C ∧ PySem.W.findIn K (.ref C) "line" = some none ∧ PySem.W.findIn K (.ref C) "word" = some none ∧ H a = some (exo a C none) ∧
  ∀ dx, H dx = none → dx ≠ a → Q .non (upd (upd (upd H dx (exd dx [(("line" : Str), v)])) a (exo a C (some dx))) dx (exd dx [(("word" : Str), u), (("line" : Str), v)]))
structure ItT (P : Program) (w : World) (K : PySem.W.Frag) (mg : Str → Option Value) (base : Heap) (C : Addr) : Prop where
  gC : mg "InvalidText" = some (.ref C)
  ox : OexC K C
  nl : PySem.W.findIn K (.ref C) "line" = some none
  nw : PySem.W.findIn K (.ref C) "word" = some none
  init : ∃ (fI : Addr) (fdI : FuncData), PySem.W.findIn K (.ref C) "__init__" = some (some (.ref fI)) ∧ PySem.W.typeIn K (.ref fI) = some (.type "function") ∧ Binds K fdI ["self", "line", "word"] [] ∧ FnOk P w K mg base CX0 1 fI fdI ["self", "line", "word"] (spItInit K)
/-- what the fields hold -/
def itF (l w : Nat) : List (Str × V) := [(("word" : Str), .int (w : Int)), (("line" : Str), .int (l : Int))]
theorem it_made {P : Program} {w : World} {K : PySem.W.Frag} {mg : Str → Option Value} {base : Heap} {C : Addr} (B : ItT P w K mg base C) {H : Hp} {l k : Nat} {E : XK} {x y : V} (hx : x = .int (l : Int)) (hy : y = .int (k : Int)) (h : ∀ d H', Same H H' → H' d = some (.xd (itF l k)) → E (.ref C) (some d) H') :
    [x, y].length ≤ 1000 ∧ ∀ a, H a = none → spItInit K (.ref a :: ([x, y] ++ [])) (upd H a (exo a C none))
      (fun v H2 => v = .non ∧ ∃ (d : Addr) (fs : List (Str × V)), H2 a = some (exo a C (some d)) ∧ H2 d = some (exd d fs) ∧ H d = none ∧ E (.ref C) (some d) (upd (del H2 a) d (.xd fs))) (fun _ _ _ => False) := by
  subst hx hy
  refine ⟨by show 2 ≤ 1000; decide, fun a ha => ⟨a, C, _, _, rfl, B.ox, B.nl, B.nw, upd_same, fun dx hd hne => ⟨rfl, dx, _, ?_, upd_same, ?_, ?_⟩⟩⟩
  · rw [upd_ne hne.symm, upd_same]
  · rw [upd_ne hne] at hd
    exact hd
  · rw [upd_ne hne] at hd
    refine h dx _ (fun z o e => ?_) upd_same
    have n1 : z ≠ dx := ne_of_none e hd
    have n2 : z ≠ a := ne_of_none e ha
    rw [upd_ne n1, del_ne n2, upd_ne n1, upd_ne n2, upd_ne n1, upd_ne n2]
    exact e
/-! ### numbers -/
theorem sum_int (l : List Nat) : (l.map fun n : Nat => (n : Int)).sum = ((l.sum : Nat) : Int) := by
  induction l with
  | nil => rfl
  | cons a r ih => rw [List.map_cons, List.sum_cons, List.sum_cons, ih]; omega
theorem wrH_good {ws : List (List Nat)} (h : wrH ws = none) : hpsB (valsL ws) = true := by
  unfold wrH at h
  split at h
  · cases h
  · cases hw : wrHs ws.tail 0 with
    | some k =>
      rw [hw] at h
      cases h
    | none =>
      rw [hw] at h
      simp only at h
      obtain ⟨hall, hlen⟩ := wrHs_none _ _ hw
      split at h
      · cases h
      · split at h
        · cases h
        · rename_i h3 hs
          have hl : (valsL ws).length = ws.length - 1 := by
            unfold valsL
            rw [List.length_map, List.length_tail]
          rw [List.length_tail] at hlen
          have hv : ∀ v ∈ valsL ws, 0 ≤ v ∧ v ≤ 10 ^ 30 := fun v hv => by
            unfold valsL at hv
            obtain ⟨w, hw', rfl⟩ := List.mem_map.mp hv
            have := (isNm_eq (hall w hw')).2.1
            exact ⟨by omega, by exact_mod_cast this⟩
          have hpos : 0 ≤ (valsL ws).sum := sum_ge _ (nn_of fun v hv' => (hv v hv').1)
          unfold hpsB
          simp only [Bool.and_eq_true, decide_eq_true_eq, List.all_eq_true, List.mem_map]
          refine ⟨⟨by omega, by omega⟩, fun x ⟨y, hy, e⟩ => ?_, by omega⟩
          subst e
          unfold inR
          simp only [id, Bool.and_eq_true, decide_eq_true_eq]
          exact hv y hy
theorem wrH_nums {ws : List Str} (h : wrH (ws.map tl) = none) : Nums ws := by
  unfold wrH at h
  split at h
  · cases h
  · cases hw : wrHs (ws.map tl).tail 0 with
    | some k =>
      rw [hw] at h
      cases h
    | none => exact nums_of (wrHs_none _ _ hw).1
/-- a step that may stand -/
theorem wrS_good {n : Nat} {ws : List (List Nat)} (hn : 1 ≤ n) (h : wrS n ws = none) : ws.length = 3 ∧ (stepL ws).1 < n ∧ (stepL ws).2 < n ∧ (stepL ws).1 ≠ (stepL ws).2 ∧ valsL ws = [((stepL ws).1 : Int), ((stepL ws).2 : Int)] ∧
    ∀ w ∈ ws.tail, isNm (10 ^ 30) w = true ∨ (AllDigits w ∧ w ≠ [] ∧ w.length ≤ (numL (n - 1)).length) := by
  unfold wrS at h
  split at h
  · cases h
  · split at h
    · cases h
    · split at h
      · cases h
      · split at h
        · cases h
        · rename_i h0 h1 h2 h3
          have l3 : ws.length = 3 := by
            have : ¬ ws.length < 3 := fun z => h2 (.inl z)
            omega
          obtain ⟨a, b, c, rfl⟩ : ∃ a b c, ws = [a, b, c] := by
            match ws, l3 with
            | [a, b, c], _ => exact ⟨a, b, c, rfl⟩
          have hb : isNm (n - 1) b = true := by
            cases z : isNm (n - 1) b with
            | true => rfl
            | false => exact absurd (.inr z) h1
          have hc : isNm (n - 1) c = true := by
            cases z : isNm (n - 1) c with
            | true => rfl
            | false => exact absurd (.inr (.inl z)) h2
          have hbc : b ≠ c := fun z => h2 (.inr (.inr z))
          obtain ⟨b1, b2, b3, b4, b5⟩ := isNm_eq hb
          obtain ⟨c1, c2, c3, c4, c5⟩ := isNm_eq hc
          have s1 : (stepL [a, b, c]).1 = digitsVal b := rfl
          have s2 : (stepL [a, b, c]).2 = digitsVal c := rfl
          refine ⟨rfl, by rw [s1]; omega, by rw [s2]; omega, fun z => hbc ?_, rfl, fun w hw => ?_⟩
          · rw [s1, s2] at z
            rw [b1, c1, z]
          · have : w = b ∨ w = c := by simpa using hw
            rcases this with e | e
            · rw [e]
              exact .inr ⟨b3, b4, b5⟩
            · rw [e]
              exact .inr ⟨c3, c4, c5⟩
theorem wrS_nums {n : Nat} {ws : List Str} (hn : 1 ≤ n) (h6 : n ≤ 6) (h : wrS n (ws.map tl) = none) : Nums ws := fun w hw => by
  obtain ⟨_, _, _, _, _, hall⟩ := wrS_good hn h
  have hm : tl w ∈ (ws.map tl).tail := by
    rw [← List.map_tail]
    exact List.mem_map.mpr ⟨w, hw, rfl⟩
  rcases hall _ hm with z | ⟨a, b, c⟩
  · obtain ⟨_, _, a, b, c⟩ := isNm_eq z
    rw [len_big] at c
    exact ⟨a, b, by rw [len_tl]; omega⟩
  · rw [numL_one (by omega)] at c
    exact ⟨a, b, by rw [len_tl]; omega⟩
theorem spl_part_len {s : Nat} : ∀ (l acc : List Nat), ∀ w ∈ spl [s] 0 acc l, w.length ≤ acc.length + l.length
  | [], acc, w, hw => by
    rw [spl_nil] at hw
    have := List.mem_singleton.mp hw
    rw [this]
    simp
  | c :: r, acc, w, hw => by
    by_cases hc : c = s
    · subst hc
      rw [spl_sep] at hw
      rcases List.mem_cons.mp hw with e | hw
      · rw [e]
        omega
      · have := spl_part_len r [] w hw
        rw [List.length_nil] at this
        rw [List.length_cons]
        omega
    · rw [spl_miss (pre_of_head _ _ hc)] at hw
      have := spl_part_len r (acc ++ [c]) w hw
      rw [List.length_append, List.length_singleton] at this
      rw [List.length_cons]
      omega
theorem wds_len {l w : List Nat} (h : w ∈ wds l) : w.length ≤ l.length := by
  have := spl_part_len (s := 32) l [] w (List.mem_filter.mp h).1
  rw [List.length_nil] at this
  omega
theorem lns_len {l w : List Nat} (h : w ∈ lns l) : w.length ≤ l.length := by
  have := spl_part_len (s := 10) l [] w h
  rw [List.length_nil] at this
  omega
theorem spl_count {s : Nat} : ∀ (l acc : List Nat), (spl [s] 0 acc l).length ≤ l.length + 1
  | [], acc => by rw [spl_nil]; simp
  | c :: r, acc => by
    by_cases hc : c = s
    · subst hc
      rw [spl_sep, List.length_cons, List.length_cons]
      have := spl_count (s := c) r []
      omega
    · rw [spl_miss (pre_of_head _ _ hc), List.length_cons]
      have := spl_count (s := s) r (acc ++ [c])
      omega
theorem wds_count (l : List Nat) : (wds l).length ≤ l.length + 1 := Nat.le_trans (List.length_filter_le _ _) (spl_count l [])
/-! ### the promises -/
def spRdH (K : PySem.W.Frag) (C : Addr) : Sp := fun vs H Q E => ∃ (l : Addr) (ws : List Str), vs = [.ref l] ∧ SqL K H l (ws.map V.str) ∧ ws.length < sizeLine ∧ (∀ w ∈ ws, w.length ≤ sizeLine) ∧
  (wrH (ws.map tl) = none → ∀ (p : Addr) (H' : Hp), Same H H' → H p = none → H' p = some (.tup ((valsL (ws.map tl)).map V.int)) → Q (.ref p) H') ∧
  (∀ k, wrH (ws.map tl) = some k → ∀ d H', Same H H' → H' d = some (.xd (itF 1 k)) → E (.ref C) (some d) H')
def spRead (K : PySem.W.Frag) (C : Addr) : Sp := fun vs H Q E => ∃ x : Str, vs = [.str x] ∧ x.length + 2 < sizeLine ∧
  (∀ ns ps, rdL (lns (tl x)) = .ok ns ps → ∀ (p t u : Addr) (qs : List Srow) (H' : Hp), Same H H' → H' p = some (.tup [.ref t, .ref u]) → SqT K H' t (ns.map V.int) → PlanAt K H' u ns.length qs → qs.map (·.2) = ps → Q (.ref p) H') ∧
  (∀ l k, rdL (lns (tl x)) = .bad l k → ∀ d H', Same H H' → H' d = some (.xd (itF l k)) → E (.ref C) (some d) H')
section
variable {P : Program} {w : World} {K : PySem.W.Frag} {mg : Str → Option Value} {base : Heap}
abbrev s_InvalidText_init : Stmt := inClass (top 10) 0
theorem sc_InvalidText_init : FnScope ["self", "line", "word"] ["self", "line", "word"] (defScope s_InvalidText_init) := ⟨rfl, rfl, rfl, by decide +kernel, rfl, by decide +kernel, by decide +kernel⟩
theorem ok_it_init {f : Addr} {fd : FuncData} (F : Fun K "__init__" "InvalidText.__init__" s_InvalidText_init f fd) : FnOk P w K mg base CX0 1 f fd ["self", "line", "word"] (spItInit K) := by
  refine F.ok sc_InvalidText_init (fun vs H Q E h => ?_) (fun cdv A outer s H vs Q E hr h => ?_)
  · obtain ⟨a, C, v, u, rfl, _⟩ := h
    rfl
  · obtain ⟨a, C, v, u, rfl, O, nl, nw, ha, k⟩ := h
    refine ⟨_, pss_cons (ps_ost (pv 0) (pv 1)) (pss_one (ps_ost (pv 0) (pv 2))), ?_⟩
    refine ⟨_, rfl, _, rfl, a, C, rfl, O, nl, .inl ⟨ha, fun dx hd hne => ?_⟩⟩
    exact ⟨_, rfl, _, rfl, a, C, rfl, O, nw, .inr ⟨dx, _, upd_same, by rw [upd_ne hne, upd_same], by show 1 ≤ 900; decide, k dx hd hne⟩⟩
abbrev s_read_heaps : Stmt := top 56
theorem sc_read_heaps : FnScope ["words", "wrong"] ["words"] (defScope s_read_heaps) := ⟨rfl, rfl, rfl, by decide +kernel, rfl, by decide +kernel, by decide +kernel⟩
theorem ok_read_heaps {f C : Addr} {fd : FuncData} (F : Fun K "read_heaps" "read_heaps" s_read_heaps f fd) (B : ItT P w K mg base C) (C_wrong_in_heaps : Cal P w K mg base CX0 2 "wrong_in_heaps" ["words"] (spWrongH K)) (C_numbers_behind : Cal P w K mg base CX0 1 "numbers_behind" ["words"] (spNums K)) :
    FnOk P w K mg base (L2N.CX P w) 4 f fd ["words"] (spRdH K C) := by
  refine okN F sc_read_heaps (fun vs H Q E h => ?_) (fun cdv A outer s H vs Q E hr h => ?_)
  · obtain ⟨l, ws, rfl, _⟩ := h
    rfl
  · obtain ⟨l, ws, rfl, hS, hl, hwl, k1, k2⟩ := h
    obtain ⟨fI, fdI, iI, tI, bI, GI⟩ := B.init
    refine ⟨_, (pss_cons (ps_set (i := 1) sc_read_heaps.nd rfl (Or.inl rfl) (pe_cal C_wrong_in_heaps hr rfl pass0 (pa_cons (pv 0) pa_nil)))
      (pss_cons (ps_if (pt_cmpR op_notN (pv 1) pe_non (nomark _)) (pss_one (L2N.ps_raise rfl (L2N.takes_of rfl rfl rfl rfl) (pmkN_oex B.ox iI tI GI (hr.mono (by decide)) bI .nil pass0 rfl B.gC (pa_cons pe_int (pa_cons (pv 1) pa_nil))))) pss_nil)
      (pss_one (ps_ret (pe_cal C_numbers_behind hr rfl pass0 (pa_cons (pv 0) pa_nil)))))), ?_⟩
    refine ⟨_, rfl, l, ws, rfl, hS, hl, hwl, fun H1 s1 => ?_⟩
    cases hw : wrH (ws.map tl) with
    | some k =>
      refine ⟨_, rfl, rfl, _, rfl, iteT ?_⟩
      exact ⟨_, rfl, it_made B rfl rfl fun d H' s' hd => k2 k hw d H' (s1.trans s') hd⟩
    | none =>
      refine ⟨_, rfl, rfl, _, rfl, iteF ?_⟩
      exact ⟨_, rfl, l, ws, rfl, s1.seq hS, wrH_nums hw, by omega, fun p H' s' hp hp' => k1 hw p H' (s1.trans s') (s1.free hp) hp'⟩
abbrev s_read_plan : Stmt := top 53
theorem sc_read_plan : FnScope ["text", "lines", "heaps", "plan", "index", "line", "words", "wrong"] ["text"] (defScope s_read_plan) := ⟨rfl, rfl, rfl, by decide +kernel, rfl, by decide +kernel, by decide +kernel⟩
theorem ok_read_plan {f C : Addr} {fd : FuncData} (F : Fun K "read_plan" "read_plan" s_read_plan f fd) (T : TxtT mg) (c_LP : ∃ t, mg "LONGEST_PLAN" = some (.int 20000 t)) (B : ItT P w K mg base C) (C_words_of : Cal P w K mg base CX0 1 "words_of" ["line"] (spWords K)) (C_read_heaps : Cal P w K mg base (L2N.CX P w) 4 "read_heaps" ["words"] (spRdH K C))
    (C_wrong_in_step : Cal P w K mg base CX0 2 "wrong_in_step" ["many", "words"] (spWrongS K)) (C_numbers_behind : Cal P w K mg base CX0 1 "numbers_behind" ["words"] (spNums K)) : FnOk P w K mg base (L2N.CX P w) 5 f fd ["text"] (spRead K C) := by
  refine okN F sc_read_plan (fun vs H Q E h => ?_) (fun cdv A outer s H vs Q E hr h => ?_)
  · obtain ⟨x, rfl, _⟩ := h
    rfl
  · obtain ⟨x, rfl, hx, k1, k2⟩ := h
    obtain ⟨fI, fdI, iI, tI, bI, GI⟩ := B.init
    refine ⟨_, (pss_cons (ps_set (i := 1) sc_read_plan.nd rfl (Or.inl rfl) (pe_split (pv 0) pe_str))
      (pss_cons (ps_set (i := 2) sc_read_plan.nd rfl (Or.inl rfl) (pe_cal C_read_heaps hr rfl (L2N.passes_call (L2N.takes_of rfl rfl rfl rfl) (fun _ _ _ _ h => h)) (pa_cons (pe_cal C_words_of hr rfl pass0 (pa_cons (pe_ix ix_list (pv 1) pe_int (fun _ _ => rfl)) pa_nil)) pa_nil)))
      (pss_cons (ps_set (i := 3) sc_read_plan.nd rfl (Or.inl rfl) (pe_lst pa_nil))
      (pss_cons (ps_for (passes_of rfl) rfl (pi_enum (by rfl) T.enumerate (pa_cons (pe_slice sl_list (pv 1) (po_some pe_int) po_none) pa_nil)) (pg_tup rfl (pgs_cons (pg_name (i := 4) sc_read_plan.nd rfl (Or.inl rfl)) (pgs_cons (pg_name (i := 5) sc_read_plan.nd rfl (Or.inl rfl)) pgs_nil)))
      (pss_cons (ps_set (i := 6) sc_read_plan.nd rfl (Or.inl rfl) (pe_cal C_words_of hr rfl pass0 (pa_cons (pv 5) pa_nil)))
      (pss_cons (ps_set (i := 7) sc_read_plan.nd rfl (Or.inl rfl) (pe_ifExp (pt_cmpR op_ge (pv 4) (pe_gint rfl c_LP) (nomark _)) pe_int (pe_cal C_wrong_in_step hr rfl pass0 (pa_cons (pe_callB call_len_seq (by rfl) T.len PySem.boot_len (pa_cons (pv 2) pa_nil)) (pa_cons (pv 6) pa_nil)))))
      (pss_cons (ps_if (pt_cmpR op_notN (pv 7) pe_non (nomark _)) (pss_one (L2N.ps_raise rfl (L2N.takes_of rfl rfl rfl rfl) (pmkN_oex B.ox iI tI GI (hr.mono (by decide)) bI .nil pass0 rfl B.gC (pa_cons (pe_op op_add (pv 4) pe_int) (pa_cons (pv 7) pa_nil))))) pss_nil)
      (pss_one (ps_expr (pe_bm PySem.F.plainAttrs_list PySem.F.slot_list_append PySem.F.type_list_append mt_append (pv 3) (pa_cons (pe_cal C_numbers_behind hr rfl pass0 (pa_cons (pv 6) pa_nil)) pa_nil))))))))
      (pss_one (ps_ret (pe_tup (pa_cons (pv 2) (pa_cons (pe_callTy call_tuple_of (by rfl) T.tuple (by decide +kernel) (pa_cons (pv 3) pa_nil)) pa_nil))))))))), ?_⟩
    have hnl : (("\n" : Str).length == 0) = false := by rw [len_tl, tl_nl]; rfl
    refine ⟨_, rfl, ⟨_, rfl⟩, _, _, rfl, rfl, hnl, by omega, fun p hp => ?_⟩
    have es := split_spl x ("\n" : Str) (by rw [tl_nl]; simp) (kind_ok (by decide +kernel))
    rw [tl_nl] at es
    have es : (Txt.split x ("\n" : Str)).map tl = lns (tl x) := es
    have hpl : (upd H p (.lst ((Txt.split x ("\n" : Str)).map V.str))) p = some (.lst ((Txt.split x ("\n" : Str)).map V.str)) := upd_same
    have s1 : Same H (upd H p (.lst ((Txt.split x ("\n" : Str)).map V.str))) := Same.new hp
    generalize Txt.split x ("\n" : Str) = ls at es hpl s1 ⊢
    generalize upd H p (.lst (ls.map V.str)) = H1 at hpl s1 ⊢
    have hxl := len_tl x
    have hll : ∀ y ∈ ls, y.length + 2 ≤ sizeLine := fun y hy => by
      have hm : tl y ∈ lns (tl x) := by rw [← es]; exact List.mem_map.mpr ⟨y, hy, rfl⟩
      have := lns_len hm
      rw [len_tl y]
      omega
    obtain ⟨l0, r, rfl⟩ : ∃ l0 r, ls = l0 :: r := by
      cases ls with
      | nil => exact absurd es.symm (lns_ne _)
      | cons a b => exact ⟨a, b, rfl⟩
    rw [← es] at k1 k2
    have hrl : r.length + 1 ≤ x.length + 1 := by
      have e := congrArg List.length es
      rw [List.length_map, List.length_cons] at e
      rw [e, hxl]
      exact spl_count _ _
    -- the first line
    have words_ok : ∀ {y : Str} {ws : List Str}, y.length + 2 ≤ sizeLine → ws.map tl = wds (tl y) → ws.length < sizeLine ∧ ∀ w ∈ ws, w.length ≤ sizeLine := fun {y ws} hy e => by
      have hyl := len_tl y
      refine ⟨?_, fun w hw => ?_⟩
      · have e2 := congrArg List.length e
        rw [List.length_map] at e2
        have := wds_count (tl y)
        omega
      · have hm : tl w ∈ wds (tl y) := by rw [← e]; exact List.mem_map.mpr ⟨w, hw, rfl⟩
        have := wds_len hm
        rw [len_tl w]
        omega
    have hl0 := hll l0 (List.mem_cons_self ..)
    refine ⟨_, rfl, p, _, _, .str l0, rfl, rfl, SqL.of hpl, at_of (j := 0) rfl rfl, l0, rfl, hl0, fun wl ws H2 s2 hwl0 hwl hws => ?_⟩
    obtain ⟨w1, w2⟩ := words_ok hl0 hws
    refine ⟨wl, ws, rfl, SqL.of hwl, w1, w2, fun hnone t H3 s3 ht0 ht3 => ?_, fun k hk d H' s' hd => ?_⟩
    · -- the steps
      rw [hws] at hnone ht3
      have e0 : ((l0 :: r).map tl).headD [] = tl l0 := rfl
      have e1 : ((l0 :: r).map tl).tail = r.map tl := rfl
      have hg := wrH_good hnone
      obtain ⟨g2, g6⟩ := hps_len hg
      have rd : rdL ((l0 :: r).map tl) = (match rdS (valsL (wds (tl l0))).length (r.map tl) 0 [] with
          | .inl (a, b) => Rd.bad a b
          | .inr ps => Rd.ok (valsL (wds (tl l0))) ps) := by
        unfold rdL
        rw [e0, e1, hnone] <;> rfl
      rw [rd] at k1 k2
      generalize hv : valsL (wds (tl l0)) = vals at rd k1 k2 hg g2 g6 ht3
      have s23 := s2.trans s3
      refine ⟨by show 0 ≤ sizeLine; decide, fun pl hpl0 => ?_⟩
      have s4 : Same H3 (upd H3 pl (.lst [])) := Same.new hpl0
      have s14 := s1.trans (s23.trans s4)
      refine ⟨_, rfl, _, rfl, p, _, rfl, SqL.of ((s23.trans s4) _ _ hpl), fun ll hll0 => ?_⟩
      rw [cut_tail]
      have s5 : Same (upd H3 pl (.lst [])) (upd (upd H3 pl (.lst [])) ll (.lst (((l0 :: r).map V.str).tail))) := Same.new hll0
      have hll1 : (upd (upd H3 pl (.lst [])) ll (.lst (((l0 :: r).map V.str).tail))) ll = some (.lst (r.map V.str)) := upd_same
      have hpl1 := s5 _ _ (upd_same (H := H3) (a := pl) (o := .lst []))
      have ht5 := s5 _ _ (s4 _ _ ht3)
      have nlp : ll ≠ pl := (ne_of_none (upd_same (H := H3) (a := pl) (o := .lst [])) hll0).symm
      have s15 := s14.trans s5
      have npl : H pl = none := (s1.trans s23).free hpl0
      clear hll0 hpl0
      generalize upd (upd H3 pl (.lst [])) ll (.lst (((l0 :: r).map V.str).tail)) = H5 at s5 hll1 hpl1 ht5 s15 ⊢
      refine ⟨ll, _, rfl, SqL.of hll1, for_it (walk_enum (K := K) (a := ll) (xs := r.map V.str)) (fun i σ H6 => ∃ (qs : List Srow) (v4 v5 v6 v7 : Option V), σ = [some (.str x), some (.ref p), some (.ref t), some (.ref pl), v4, v5, v6, v7] ∧ Same H H6 ∧ H6 ll = some (.lst (r.map V.str)) ∧ H6 t = some (.tup (vals.map V.int)) ∧
          PrL K H6 pl vals.length qs ∧ qs.length = i ∧ (0 < i → i ≤ 20000) ∧ rdS vals.length (r.map tl) 0 [] = rdS vals.length ((r.map tl).drop i) i (qs.map (·.2)))
        ⟨[], none, none, none, none, rfl, s15, hll1, ht5, ⟨hpl1, fun q hq => (nomatch hq)⟩, rfl, fun z => absurd z (by decide), rfl⟩ (fun i σ H6 _ ⟨_, _, _, _, _, _, _, q, _⟩ => SqL.of q) ?_ ?_⟩
      · rintro i y σ H6 H7 hi ⟨qs, v4, v5, v6, v7, rfl, s6, h6l, h6t, hQ, hql, hq2, hrd⟩ ⟨TT, x1, x2, rfl, hTT, rfl, e1', e2'⟩
        have e1'' := Option.some.inj e1'
        subst e1''
        obtain ⟨y, hy, rfl⟩ := str_at e2'
        rw [List.length_map] at hi
        have hyl := hll y (List.mem_cons_of_mem _ (List.mem_of_getElem? hy))
        have s7 : Same H6 (upd H6 TT (.tup [.int (i : Nat), .str y])) := Same.new hTT
        refine ⟨TT, _, rfl, SqT.of upd_same, rfl, _, _, rfl, _, _, rfl, rfl, ?_⟩
        refine ⟨_, rfl, y, rfl, hyl, fun wl ws H8 s8 hwl0 hwl hws => ?_⟩
        obtain ⟨w1, w2⟩ := words_ok hyl hws
        have s68 := s7.trans s8
        have hym : (r.map tl)[i]? = some (tl y) := by rw [List.getElem?_map, hy]; rfl
        obtain ⟨hiy, eyy⟩ := List.getElem?_eq_some_iff.mp hym
        have hst : rdS vals.length ((r.map tl).drop i) i (qs.map (·.2)) = (match (if 20000 ≤ i then some 1 else wrS vals.length (wds (tl y))) with
            | some w => (Sum.inl (i + 2, w) : (Nat × Nat) ⊕ List (Nat × Nat))
            | none => rdS vals.length ((r.map tl).drop (i + 1)) (i + 1) (qs.map (·.2) ++ [stepL (wds (tl y))])) := by
          rw [List.drop_eq_getElem_cons hiy, eyy]
          rfl
        rw [hst] at hrd
        have refuse : ∀ (k : Nat) (H9 : Hp), Same H8 H9 → (if 20000 ≤ i then some 1 else wrS vals.length (wds (tl y))) = some k → ∀ (σ' : L2.St) (u v : V), u = .int ((i + 2 : Nat) : Int) → v = .int (k : Int) →
            [u, v].length ≤ 1000 ∧ ∀ a, H9 a = none → spItInit K (.ref a :: ([u, v] ++ [])) (upd H9 a (exo a C none)) (fun v H2 => v = .non ∧ ∃ (d : Addr) (fs : List (Str × V)), H2 a = some (exo a C (some d)) ∧ H2 d = some (exd d fs) ∧ H9 d = none ∧ E (.ref C) (some d) (upd (del H2 a) d (.xd fs))) (fun _ _ _ => False) := fun k H9 s9 hk σ' u v hu hv => by
          rw [hk] at hrd
          refine it_made B hu hv fun d H' s' hd => k2 (i + 2) k ?_ d H' (((s6.trans s68).trans s9).trans s') hd
          rw [hrd]
        by_cases hbig : 20000 ≤ i
        · refine ⟨_, rfl, _, _, rfl, rfl, _, rfl, ?_⟩
          refine ifT (decide_eq_true (show (20000 : Int) ≤ ((i : Nat) : Int) by omega)) ?_
          refine ⟨_, rfl, rfl, _, rfl, iteT ?_⟩
          exact ⟨_, rfl, _, _, rfl, rfl, _, rfl, refuse 1 _ (Same.refl _) (by rw [if_pos hbig]) [] _ _ rfl rfl⟩
        · refine ⟨_, rfl, _, _, rfl, rfl, _, rfl, ?_⟩
          refine ifF (decide_eq_false (show ¬ (20000 : Int) ≤ ((i : Nat) : Int) by omega)) ?_
          have h8t := s68 _ _ h6t
          refine ⟨_, rfl, t, _, rfl, .inr (SqT.of h8t), _, rfl, vals.length, wl, ws, by rw [List.length_map], by omega, g6, SqL.of hwl, w2, ?_⟩
          rw [hws]
          rw [if_neg hbig] at hrd refuse
          cases hw : wrS vals.length (wds (tl y)) with
          | some k =>
            refine ⟨_, rfl, rfl, _, rfl, iteT ?_⟩
            exact ⟨_, rfl, _, _, rfl, rfl, _, rfl, refuse k _ (Same.refl _) hw [] _ _ rfl rfl⟩
          | none =>
            refine ⟨_, rfl, rfl, _, rfl, iteF ?_⟩
            rw [hw] at hrd
            have hw' : wrS vals.length (ws.map tl) = none := by rw [hws]; exact hw
            obtain ⟨_, a1, a2, a3, a4, _⟩ := wrS_good (by omega) hw
            have hQ8 := hQ.same s68
            refine ⟨_, rfl, .inl ⟨rfl, _, SqL.of hQ8.ls⟩, _, rfl, wl, ws, rfl, SqL.of hwl, wrS_nums (by omega) g6 hw', by omega, fun q H9 s9 hq hq9 => ?_⟩
            rw [hws, a4] at hq9
            have hQ9 := hQ8.same s9
            refine ⟨pl, _, _, rfl, rfl, hQ9.ls, ?_, ?_⟩
            · rw [List.length_map, hql, sizeLine_eq]
              omega
            have s69 := s68.trans s9
            have npll : ll ≠ pl := fun z => by
              have := hQ.ls
              rw [← z, h6l] at this
              rw [z] at nlp
              exact nlp rfl
            refine ⟨qs ++ [(q, stepL (wds (tl y)))], _, _, _, _, rfl, ?_, ?_, ?_, ?_, by rw [List.length_append, hql]; rfl, fun _ => by omega, ?_⟩
            · exact fun a o e => by rw [upd_ne (ne_of_none e npl)]; exact (s6.trans s69) a o e
            · rw [upd_ne npll]
              exact s69 _ _ h6l
            · rw [upd_ne (ne_of (s69 _ _ h6t) hQ9.ls (by intro z; cases z))]
              exact s69 _ _ h6t
            · have := hQ9.more (qs := [(q, stepL (wds (tl y)))]) fun z hz => by
                have e : z = (q, stepL (wds (tl y))) := by simpa using hz
                subst e
                exact ⟨SqT.of hq9, a1, a2, a3⟩
              exact this
            · rw [hrd, List.map_append]
              rfl
      · rintro σ H6 ⟨qs, v4, v5, v6, v7, rfl, s6, h6l, h6t, hQ, hql, hq2, hrd⟩
        rw [List.length_map] at hrd
        rw [List.drop_of_length_le (by rw [List.length_map]; exact Nat.le_refl _)] at hrd
        have hrd : rdS vals.length (r.map tl) 0 [] = .inr (qs.map (·.2)) := hrd
        rw [hrd] at k1
        refine ⟨_, rfl, _, rfl, pl, _, rfl, .inl ⟨SqL.of hQ.ls, fun u hu => ⟨by show 2 ≤ sizeLine; decide, fun pp hpp => ?_⟩⟩⟩
        have s7 : Same H6 (upd H6 u (.tup (qs.map fun p => V.ref p.1))) := Same.new hu
        have s8 : Same (upd H6 u (.tup (qs.map fun p => V.ref p.1))) (upd (upd H6 u (.tup (qs.map fun p => V.ref p.1))) pp (.tup [.ref t, .ref u])) := Same.new hpp
        exact k1 vals _ rfl pp t u qs _ (s6.trans (s7.trans s8)) upd_same (SqT.of ((s7.trans s8) _ _ h6t)) ⟨SqT.of (s8 _ _ upd_same), fun z hz => (hQ.st z hz).same (s7.trans s8)⟩ rfl
    · rw [hws] at hk
      refine k2 1 k ?_ d H' ((s1.trans s2).trans s') hd
      unfold rdL
      have e0 : ((l0 :: r).map tl).headD [] = tl l0 := rfl
      rw [e0, hk]
end
end Hd
set_option maxHeartbeats 4000000
namespace Hd
open PySem PySem.Spec PyProof.Rows L2
abbrev two (a b : Nat) : List V := [V.int (a : Int), V.int (b : Int)]
def spSplit : Sp := fun vs H Q _ => ∃ n o t : Nat, vs = [.int (n : Int)] ∧ 0 < n ∧ n = o * 2 ^ t ∧ o % 2 = 1 ∧ ∀ (p : Addr) (H' : Hp), Same H H' → H p = none → H' p = some (.tup (two o t)) → Q (.ref p) H'
/-- the common divisor of all -/
def gAll (ns : List Int) : Nat := ns.foldl (fun d x => Nat.gcd d x.natAbs) 0
theorem gAll_more (ns : List Int) (x : Int) : gAll (ns ++ [x]) = Nat.gcd (gAll ns) x.natAbs := by
  unfold gAll
  rw [List.foldl_append]
  rfl
theorem fold_dvd : ∀ (ns : List Int) (d : Nat), ns.foldl (fun d x => Nat.gcd d x.natAbs) d ∣ d ∧ ∀ x ∈ ns, ns.foldl (fun d x => Nat.gcd d x.natAbs) d ∣ x.natAbs
  | [], d => ⟨Nat.dvd_refl _, fun x hx => nomatch hx⟩
  | x :: r, d => by
    obtain ⟨a, b⟩ := fold_dvd r (Nat.gcd d x.natAbs)
    refine ⟨Nat.dvd_trans a (Nat.gcd_dvd_left _ _), fun y hy => ?_⟩
    rcases List.mem_cons.mp hy with e | hy
    · subst e
      exact Nat.dvd_trans a (Nat.gcd_dvd_right _ _)
    · exact b y hy
theorem gAll_dvd {ns : List Int} {x : Int} (h : x ∈ ns) : (gAll ns : Int) ∣ x := Int.dvd_natAbs.mp (Int.natCast_dvd_natCast.mpr ((fold_dvd ns 0).2 x h))
theorem dvd_sum {g : Int} : ∀ {ns : List Int}, (∀ x ∈ ns, g ∣ x) → g ∣ ns.sum
  | [], _ => Int.dvd_zero _
  | x :: r, h => by
    rw [List.sum_cons]
    exact Int.dvd_add (h x List.mem_cons_self) (dvd_sum fun y hy => h y (List.mem_cons_of_mem _ hy))
theorem gAll_sum (ns : List Int) : (gAll ns : Int) ∣ ns.sum := dvd_sum fun x hx => gAll_dvd hx
theorem gAll_pos {ns : List Int} (h : 0 < ns.sum) : 0 < gAll ns := by
  obtain ⟨c, hc⟩ := gAll_sum ns
  by_cases z : gAll ns = 0
  · rw [z] at hc
    simp at hc
    omega
  · omega
theorem gAll_le {ns : List Int} (h : 0 < ns.sum) : (gAll ns : Int) ≤ ns.sum := Int.le_of_dvd h (gAll_sum ns)
theorem gAll_getD (ns : List Int) (k : Nat) : (gAll ns : Int) ∣ ns.getD k 0 := by
  rw [List.getD_eq_getElem?_getD]
  cases e : ns[k]? with
  | none => exact Int.dvd_zero _
  | some v => exact gAll_dvd (List.mem_of_getElem? e)
/-- o is the odd part of the sum by the common divisor, tw the twos -/
structure OddOf (ns : List Int) (o tw : Nat) : Prop where
  eq : ns.sum = (gAll ns : Int) * ((o * 2 ^ tw : Nat) : Int)
  odd : o % 2 = 1
theorem OddOf.div {ns : List Int} {o tw : Nat} (h : OddOf ns o tw) (p : 0 < ns.sum) : ns.sum / (gAll ns : Int) = ((o * 2 ^ tw : Nat) : Int) := by
  have g := gAll_pos p
  rw [h.eq, Int.mul_ediv_cancel_left _ (by omega)]
theorem odd_some {ns : List Int} (p : 0 < ns.sum) : ∃ o tw, OddOf ns o tw := by
  obtain ⟨c, hc⟩ := gAll_sum ns
  have g := gAll_pos p
  have cp : 0 < c := by
    by_cases z : 0 < c
    · exact z
    · have := Int.mul_nonneg (show 0 ≤ (gAll ns : Int) by omega) (show 0 ≤ -c by omega)
      rw [Int.mul_neg] at this
      omega
  obtain ⟨o, t, e, ho⟩ := twos_some c.toNat (by omega)
  refine ⟨o, t, ?_, ho⟩
  rw [← e, hc, Int.toNat_of_nonneg (by omega)]
/-- what good heaps are -/
theorem hps_good {ns : List Int} (h : hpsB ns = true) : 2 ≤ ns.length ∧ ns.length ≤ 6 ∧ NN ns ∧ 0 < ns.sum ∧ ns.sum < 2 ^ 103 := by
  unfold hpsB at h
  simp only [Bool.and_eq_true, decide_eq_true_eq, List.all_eq_true, List.mem_map] at h
  obtain ⟨⟨h1, h2⟩, h3, h4⟩ := h
  have each : ∀ x ∈ ns, 0 ≤ x ∧ x ≤ 10 ^ 30 := fun x hx => by
    have := h3 _ ⟨x, hx, rfl⟩
    unfold inR at this
    simpa using this
  have le : ∀ (xs : List Int), (∀ x ∈ xs, 0 ≤ x ∧ x ≤ 10 ^ 30) → xs.sum ≤ xs.length * 10 ^ 30 := fun xs => by
    induction xs with
    | nil => intro _; simp
    | cons x r ih =>
      intro hx
      have := ih fun y hy => hx y (List.mem_cons_of_mem _ hy)
      have := (hx x List.mem_cons_self).2
      rw [List.sum_cons, List.length_cons]
      omega
  have := le ns each
  refine ⟨h1, h2, nn_of fun x hx => (each x hx).1, h4, ?_⟩
  omega
def spRed (K : PySem.W.Frag) : Sp := fun vs H Q _ => ∃ (t : Addr) (ns : List Int) (o tw : Nat), vs = [.ref t] ∧ SqT K H t (ns.map V.int) ∧ hpsB ns = true ∧ OddOf ns o tw ∧ ∀ (p : Addr) (H' : Hp), Same H H' → H p = none → H' p = some (.tup (two o tw)) → Q (.ref p) H'
theorem small_two {a b : Int} {n : Nat} (ha : -(2 ^ 62) ≤ a) (ha' : a < 2 ^ 61) (hb : -(2 ^ 62) ≤ b) (hb' : b < 2 ^ 61) (e : Builtin.Range.rangeSize a b 2 = (n : Int)) (hn : n < 2 ^ 40) : Builtin.Range.small a b 2 = true := by
  unfold Builtin.Range.small
  rw [e]
  simp only [Builtin.Range.rangeFitsLong, Bool.and_eq_true, Bool.or_eq_true, decide_eq_true_eq, beq_iff_eq, show (2 : Int) > 0 by decide, if_true]
  omega
theorem rgc_two {o : Nat} (ho : o % 2 = 1) (hle : o ≤ 10 ^ 6) : RgC 3 ((o : Int) + 1) 2 ((o - 1) / 2) := by
  have e : Builtin.Range.rangeSize 3 ((o : Int) + 1) 2 = (((o - 1) / 2 : Nat) : Int) := by
    unfold Builtin.Range.rangeSize
    simp only [show (2 : Int) > 0 by decide, if_true]
    split <;> omega
  exact ⟨by decide, by decide, small_two (by omega) (by omega) (by omega) (by omega) e (by omega), e⟩
def spOrd : Sp := fun vs H Q _ => ∃ o k : Nat, vs = [.int (o : Int)] ∧ 1 < o ∧ Ord o k ∧ Q (.int (k : Int)) H
def spTot : Sp := fun vs H Q _ => ∃ d : Nat, vs = [.int (d : Int)] ∧ 1 ≤ d ∧ d ≤ 10 ^ 6 ∧ Q (.int (phi d : Int)) H
def spDivs : Sp := fun vs H Q _ => ∃ o : Nat, vs = [.int (o : Int)] ∧ o % 2 = 1 ∧ o ≤ 10 ^ 6 ∧ ∀ (p : Addr) (H' : Hp), Same H H' → H p = none → H' p = some (.lst ((divs o).map fun d : Nat => V.int (d : Int))) → Q (.ref p) H'
section
variable {P : Program} {w : World} {K : PySem.W.Frag} {mg : Str → Option Value} {base : Heap}
abbrev s_split_twos : Stmt := top 32
theorem sc_split_twos : FnScope ["number", "odd", "twos"] ["number"] (defScope s_split_twos) := ⟨rfl, rfl, rfl, by decide +kernel, rfl, by decide +kernel, by decide +kernel⟩
theorem ok_split_twos {f : Addr} {fd : FuncData} (F : Fun K "split_twos" "split_twos" s_split_twos f fd) : FnOk P w K mg base CX0 1 f fd ["number"] spSplit := by
  refine F.ok sc_split_twos (fun vs H Q E h => ?_) (fun cdv A outer s H vs Q E hr h => ?_)
  · obtain ⟨n, o, t, rfl, _⟩ := h
    rfl
  · obtain ⟨n, o, t, rfl, hn, e, ho, k⟩ := h
    refine ⟨_, (pss_cons (ps_set (i := 1) sc_split_twos.nd rfl (Or.inl rfl) (pv 0))
      (pss_cons (ps_set (i := 2) sc_split_twos.nd rfl (Or.inl rfl) pe_int)
      (pss_cons (ps_while PassesOwn.never (pt_cmpR op_eq (pe_op op_mod (pv 1) pe_int) pe_int (nomark _)) (pss_cons (ps_aug (i := 1) sc_split_twos.nd rfl (Or.inl rfl) pe_int iop_fdiv)
      (pss_one (ps_aug (i := 2) sc_split_twos.nd rfl (Or.inl rfl) pe_int ip_add))))
      (pss_one (ps_ret (pe_tup (pa_cons (pv 1) (pa_cons (pv 2) pa_nil)))))))), ?_⟩
    refine ⟨_, rfl, ?_⟩
    refine ⟨fun m σ H1 => ∃ u v : Nat, σ = [some (.int (n : Int)), some (.int (u : Int)), some (.int (v : Int))] ∧ H1 = H ∧ n = u * 2 ^ v ∧ 0 < u ∧ u = m, ⟨n, n, 0, rfl, rfl, by simp, hn, rfl⟩, ?_⟩
    rintro m σ H1 ⟨u, v, rfl, rfl, euv, hu, rfl⟩
    refine ⟨_, rfl, _, _, rfl, rfl, (by show (0 : Int) < 2; decide), rfl, _, rfl, ?_⟩
    rw [dec_int]
    refine ite2 (fun hz => ?_) (fun hz => ?_)
    · have hz' : u % 2 = 0 := by have := of_decide_eq_true hz; omega
      refine ⟨fun σ' H' => ∃ u' v' : Nat, σ' = [some (.int (n : Int)), some (.int (u' : Int)), some (.int (v' : Int))] ∧ H' = H1 ∧ n = u' * 2 ^ v' ∧ 0 < u' ∧ u' < u, fun σ' H' ⟨u', v', e1, e2, e3, e4, e5⟩ => ⟨u', e5, u', v', e1, e2, e3, e4, rfl⟩, ?_⟩
      refine ⟨_, rfl, _, _, rfl, rfl, ⟨by decide, by decide⟩, _, rfl, _, _, rfl, rfl, ?_⟩
      refine ⟨u / 2, v + 1, ?_, rfl, ?_, by omega, by omega⟩
      · show [some (V.int (n : Int)), some (V.int ((u : Int) / 2)), some (V.int ((v : Int) + 1))] = _
        rw [show ((u : Int) / 2) = ((u / 2 : Nat) : Int) by omega, show ((v : Int) + 1) = ((v + 1 : Nat) : Int) by omega]
      · rw [euv, Nat.pow_succ]
        have : u = u / 2 * 2 := by omega
        rw (occs := [1]) [this]
        rw [Nat.mul_assoc, Nat.mul_comm 2]
    · have hz' : u % 2 = 1 := by
        have : ¬ ((u : Int) % 2 = 0) := fun z => hz (decide_eq_true z)
        omega
      obtain ⟨e1, e2⟩ := part_one ho hz' (e.symm.trans euv)
      subst e1 e2
      refine ⟨_, rfl, _, rfl, by show 2 ≤ sizeLine; decide, fun p hp => ?_⟩
      exact k p _ (Same.new hp) hp upd_same
abbrev s_reduced_parts : Stmt := top 33
theorem sc_reduced_parts : FnScope ["numbers", "divisor", "number"] ["numbers"] (defScope s_reduced_parts) := ⟨rfl, rfl, rfl, by decide +kernel, rfl, by decide +kernel, by decide +kernel⟩
theorem ok_reduced_parts {f : Addr} {fd : FuncData} (F : Fun K "reduced_parts" "reduced_parts" s_reduced_parts f fd) (T : Tz mg) (m_gcd : mg "gcd" = some (.builtin "math.gcd")) (C_split_twos : Cal P w K mg base CX0 1 "split_twos" ["number"] spSplit) : FnOk P w K mg base CX0 2 f fd ["numbers"] (spRed K) := by
  refine F.ok sc_reduced_parts (fun vs H Q E h => ?_) (fun cdv A outer s H vs Q E hr h => ?_)
  · obtain ⟨t, ns, o, tw, rfl, _⟩ := h
    rfl
  · obtain ⟨t, ns, o, tw, rfl, hS, hg, hO, k⟩ := h
    obtain ⟨g1, g2, g3, g4, g5⟩ := hps_good hg
    refine ⟨_, (pss_cons (ps_set (i := 1) sc_reduced_parts.nd rfl (Or.inl rfl) pe_int)
      (pss_cons (ps_for PassesOwn.never rfl (pi_tup (pv 0)) (pg_name (i := 2) sc_reduced_parts.nd rfl (Or.inl rfl))
      (pss_one (ps_set (i := 1) sc_reduced_parts.nd rfl (Or.inl rfl) (pe_callBfun cr_gcd rfl m_gcd (pa_cons (pv 1) (pa_cons (pv 2) pa_nil))))))
      (pss_one (ps_ret (pe_cal C_split_twos hr rfl pass0 (pa_cons (pe_op op_fdivW (pe_callB (cr_sumT rfl) (by rfl) T.sum (by decide +kernel) (pa_cons (pv 0) pa_nil)) (pv 1)) pa_nil)))))), ?_⟩
    refine ⟨_, rfl, t, rfl, ⟨_, hS⟩, for_tup (K := K) (a := t) (xs := ns.map V.int) (fun i σ H1 => ∃ v : Option V, σ = [some (.ref t), some (.int (gAll (ns.take i) : Int)), v] ∧ H1 = H) ⟨none, rfl, rfl⟩ (fun i σ H1 _ ⟨_, _, e⟩ => by rw [e]; exact hS) ?_ ?_⟩
    · rintro i x σ H1 hi ⟨v, rfl, rfl⟩
      obtain ⟨z, hz, rfl⟩ := int_at hi
      refine ⟨_, rfl, _, rfl, _, _, rfl, ?_⟩
      refine ⟨some (.int z), ?_, rfl⟩
      rw [List.take_add_one, hz]
      show _ = [some (V.ref t), some (V.int ((gAll (ns.take i ++ [z]) : Nat) : Int)), some (V.int z)]
      rw [gAll_more]
      rfl
    · rintro σ H1 ⟨v, rfl, rfl⟩
      rw [List.length_map, List.take_length]
      have q0 := gAll_pos g4
      have q1 := gAll_le g4
      have hd := hO.div g4
      have op : 0 < o * 2 ^ tw := Nat.mul_pos (by have := hO.odd; omega) (Nat.pow_pos (by decide))
      refine ⟨_, rfl, t, ns, rfl, hS, _, rfl, _, _, rfl, rfl, wide_div (b := 200) (by omega) (by omega) (by decide) (by decide), ?_⟩
      exact ⟨o * 2 ^ tw, o, tw, congrArg (fun z : Int => [V.int z]) hd, op, rfl, hO.odd, k⟩
end
end Hd
set_option maxHeartbeats 4000000
/-! A set whose items, tuples of any depth, are all unlike: how it is looked through, filled, laid anew. -/
namespace Hd
open PySem PySem.Spec PyProof.Rows L2
section
variable {P : Program} {w : World} {K : Type} [DecidableEq K] {κ : HeapKind P w K} {A : Around} {E : Value → Shared → Prop} {s : Shared}
/-- what a set asks of its tuples beyond hash and == -/
structure SetKind (κ : HeapKind P w K) : Prop where
  stay : κ.Stays
  noCls : ∀ {A : Around} {E : Value → Shared → Prop} {s : Shared} {k : K} {b : Addr} {Q : Bool → Shared → Prop}, κ.is s.heap k b → Q false s → wpAny (model P w) A (ofAClassStatement 8 (.ref b)) Q E s
  byVal : ∀ {A : Around} {E : Value → Shared → Prop} {s : Shared} {k : K} {b : Addr} {Q : Bool → Shared → Prop}, κ.is s.heap k b → Q true s → wpAny (model P w) A (hashByValue 8 (.ref b)) Q E s
theorem keeps_of {κ : HeapKind P w K} (Z : SetKind κ) {h h' : Heap} {k : K} {b : Addr} (f : ∀ c o, h.get? c = some o → h'.get? c = some o) (x : κ.is h k b) : κ.is h' k b := Z.stay.stays (fun c o _ _ e _ => f c o e) x
theorem keeps_but {κ : HeapKind P w K} (Z : SetKind κ) {h h' : Heap} {k : K} {a b : Addr} {o : Obj} {es : Array (Int × Value)} {ep : Nat} {t : SetTable} (e : h.get? a = some o) (ed : o.data = .set es ep t) (f : Heap.SameBut a h h') (x : κ.is h k b) : κ.is h' k b :=
  Z.stay.stays (fun c oc vs n ec dc => by
    refine (f.2 c fun z => ?_).trans ec
    rw [z, e] at ec
    rw [← Option.some.inj ec, ed] at dc
    exact nomatch dc) x
theorem unseen {κ : HeapKind P w K} (Z : SetKind κ) {k : K} {b : Addr} (hk : κ.is s.heap k b) {ys : List Value} (hy : ∀ y ∈ ys, ∃ k' c, y = Value.ref c ∧ κ.is s.heap k' c) {Q : Bool → Shared → Prop} (q : Q false s) : wpAny (model P w) A (searchCouldBeSeen (.ref b) ys) Q E s := by
  unfold searchCouldBeSeen
  refine wpAny_bind (wpAny_forIn_list _ (fun left acc s2 => acc.1 = none ∧ s2 = s ∧ ∀ y ∈ left, ∃ k' c, y = Value.ref c ∧ κ.is s.heap k' c) _ ?_ ?_ _ _ ⟨rfl, rfl, hy⟩)
  · rintro y left acc s2 ⟨ha, rfl, hl⟩
    obtain ⟨k2, c, rfl, hc⟩ := hl y List.mem_cons_self
    have tl : ∀ y ∈ left, ∃ k' c, y = Value.ref c ∧ κ.is s2.heap k' c := fun z hz => hl z (List.mem_cons_of_mem _ hz)
    dsimp only
    by_cases hv : (b == c || (carriedByValue (.ref b) && carriedByValue (.ref c))) = true
    · exact wp_if_pos hv (wpAny_pure ⟨rfl, rfl, tl⟩)
    · refine wp_if_neg hv (wpAny_bind (κ.quiet hk ?_))
      simp only [if_false, Bool.not_true, Bool.false_eq_true]
      refine wpAny_bind (κ.quiet hc ?_)
      simp only [if_false, Bool.not_true, Bool.false_eq_true]
      refine wpAny_bind (Z.noCls hk ?_)
      simp only [if_false, Bool.false_eq_true]
      refine wpAny_bind (Z.noCls hc ?_)
      simp only [if_false, Bool.false_eq_true]
      exact wpAny_pure ⟨rfl, rfl, tl⟩
  · rintro ⟨x1, x2⟩ s2 ⟨ha, rfl, _⟩
    have ha' : x1 = none := ha
    subst ha'
    exact wpAny_pure q
/-- an item's hash and the item -/
def cell (κ : HeapKind P w K) (p : Addr × K) : Int × Value := (κ.hash p.2, .ref p.1)
/-- the set at a: the items in their slots' order -/
structure KSet (κ : HeapKind P w K) (h : Heap) (a : Addr) (L : List (Addr × K)) (es : Array (Int × Value)) (ep : Nat) (t : SetTable) : Prop where
  obj : ∃ o, h.get? a = some o ∧ o.ExactSet ∧ o.data = .set es ep t
  cells : es.toList = L.map (cell κ)
  tab : TabOk t (L.map fun p => κ.hash p.2)
  keys : (L.map (·.2)).Nodup
  objs : ∀ p ∈ L, κ.is h p.2 p.1
  plainT : t.plain = true
  led : w.params.followText "set-order" = true ∨ t.led = true
  space : L.length * 5 < t.mask * 3
  few : L.length < 64
variable {a : Addr} {L : List (Addr × K)} {es : Array (Int × Value)} {ep : Nat} {t : SetTable}
theorem KSet.count (S : KSet κ s.heap a L es ep t) : es.size = L.length := by
  have := congrArg List.length S.cells
  rwa [Array.length_toList, List.length_map] at this
theorem KSet.fits (S : KSet κ s.heap a L es ep t) : t.fits es.size = true := by
  have e1 := S.tab.sz
  have e2 := S.count
  have e3 := S.space
  rw [List.length_map] at e1
  show (t.place.size == es.size && decide (t.fill ≤ t.mask)) = true
  have e4 : t.fill = t.place.size + 0 := by
    show t.place.size + t.dummies.size = _
    rw [S.tab.dm]
    rfl
  rw [e4, Bool.and_eq_true, beq_iff_eq, decide_eq_true_eq]
  omega
theorem KSet.at_ (S : KSet κ s.heap a L es ep t) {i : Nat} {p : Addr × K} (e : L[i]? = some p) : es[i]? = some (cell κ p) := by
  rw [← Array.getElem?_toList, S.cells, List.getElem?_map, e]
  rfl
theorem KSet.stands (S : KSet κ s.heap a L es ep t) : ¬ t.gaveWay = true := by
  show ¬ _
  unfold SetTable.gaveWay
  rw [mask_odd S.tab.mok]
  decide
/-- the c-th slot that a search for the hash h looks at -/
abbrev pr (m : Nat) (h : Int) (c : Nat) : SetTable.Probe := nth m (runAt m (SetTable.bits h % (m + 1)) (SetTable.bits h)) c
theorem pr_add (m : Nat) (h : Int) (c d : Nat) : nth m (pr m h c) d = pr m h (c + d) := (nth_add m c _ d).symm
theorem nth_dummy (m : Nat) : ∀ (c : Nat) (p : SetTable.Probe), p.dummy = none → (nth m p c).dummy = none
  | 0, _, e => e
  | c + 1, p, e => nth_dummy m c (adv m p) (by
    unfold adv
    split <;> exact e)
/-- what is not there is not found -/
theorem not_found (Z : SetKind κ) (S : KSet κ s.heap a L es ep t) {x : Addr} {k : K} (hx : κ.is s.heap k x) (hn : k ∉ L.map (·.2)) (hr : κ.room A) {N : Nat} (hN : N < 10 * SetTable.turns t.mask) (free : way t.mask (κ.hash k) N ∉ t.place.toList)
    (full : ∀ c, c < N → way t.mask (κ.hash k) c ∈ t.place.toList) {Q : SetFound → Shared → Prop} (q : Q (.free (way t.mask (κ.hash k) N) false) s) :
    ∀ (f c : Nat) (st : Option SetTable.Probe), st.getD (t.probeStart (κ.hash k)) = pr t.mask (κ.hash k) c → c ≤ N → N - c < f → wpAny (model P w) A (setSearchFrom a (.ref x) (κ.hash k) true f st) Q E s
  | 0, _, _, _, _, z => absurd z (Nat.not_lt_zero _)
  | f + 1, c, st, est, hc, hf => by
    obtain ⟨ob, hob, exa, hda⟩ := S.obj
    rw [setSearchFrom_succ]
    refine wpAny_bind (wpAny_setState_of hob hda S.fits ?_)
    dsimp only
    refine wp_if_neg S.stands ?_
    try refine wpAny_bind (wpAny_pure ?_)
    have slot : ∀ j, (nth t.mask (pr t.mask (κ.hash k) c) j).j = way t.mask (κ.hash k) (c + j) := fun j => congrArg SetTable.Probe.j (pr_add t.mask (κ.hash k) c j)
    have end_ : c + (N - c) = N := by omega
    have sp := go_spec t S.tab.ris S.tab.dm (fun i => (es[i]?.map (·.1)).getD 0) (κ.hash k) (10 * SetTable.turns t.mask) (N - c) (pr t.mask (κ.hash k) c) (nth_dummy _ _ _ rfl) (by omega)
      (fun j hj => by rw [slot]; exact full _ (by omega)) (by rw [slot, end_]; exact free)
    rcases sp with ⟨j, i, hj, hi, _, _, go⟩ | ⟨_, go⟩
    · rw [slot] at hi
      rw [slot, pr_add] at go
      have go' : t.probe (fun i => (es[i]?.map (·.1)).getD 0) (κ.hash k) (st.getD (t.probeStart (κ.hash k))) = some (.candidate (way t.mask (κ.hash k) (c + j)) i (pr t.mask (κ.hash k) (c + (j + 1)))) := by
        rw [est]
        exact go
      rw [go']
      dsimp only
      have hil : i < L.length := by
        have z1 := (List.getElem?_eq_some_iff.mp hi).1
        have z2 := S.tab.sz
        rw [List.length_map] at z2
        rw [Array.length_toList] at z1
        omega
      obtain ⟨p, ep0⟩ : ∃ p, L[i]? = some p := ⟨_, List.getElem?_eq_getElem hil⟩
      have pin : p ∈ L := List.mem_of_getElem? ep0
      have unlike : ¬ p.2 = k := fun z => hn (List.mem_map.mpr ⟨p, pin, z⟩)
      have ent : es[i]? = some (κ.hash p.2, .ref p.1) := S.at_ ep0
      have onward : wpAny (model P w) A (searchRest a (.ref x) (κ.hash k) true f es t (way t.mask (κ.hash k) (c + j)) i (pr t.mask (κ.hash k) (c + (j + 1)))) Q E s := by
        unfold searchRest
        rw [ent]
        dsimp only
        refine wpAny_bind (wpAny_holding (κ.eqBool hr (S.objs p pin) hx ?_))
        refine wpAny_bind (wpAny_setState_of hob hda S.fits ?_)
        dsimp only
        refine wp_if_neg (by simp [unlike]) ?_
        try refine wpAny_bind (wpAny_pure ?_)
        rw [sameMem]
        dsimp only
        simp only [if_true, slot_live S.tab.ris hi, ent]
        refine wpAny_bind (wpAny_isSame_ref_self (wpAny_bind (wpAny_pure ?_)))
        simp only [if_true]
        refine wp_if_neg (by simp [unlike]) ?_
        exact not_found Z S hx hn hr hN free full q f (c + (j + 1)) _ rfl (by omega) (by omega)
      by_cases hl : t.led = true
      · refine wp_if_neg (by simp [hl]) ?_
        try refine wpAny_bind (wpAny_pure ?_)
        exact onward
      · refine wp_if_pos (by simp [hl]) (wpAny_bind (unseen Z hx (fun y hy => ?_) ?_))
        · obtain ⟨e, he, rfl⟩ := List.mem_map.mp hy
          have he1 : e ∈ es := by
            have : e ∈ es ∧ e.1 = κ.hash k := by simpa using he
            exact this.1
          have he2 : e ∈ es.toList := by simpa using he1
          rw [S.cells] at he2
          obtain ⟨p2, hp2, rfl⟩ := List.mem_map.mp he2
          exact ⟨p2.2, p2.1, rfl, S.objs p2 hp2⟩
        · refine wp_if_neg (by decide) ?_
          try refine wpAny_bind (wpAny_pure ?_)
          exact onward
    · rw [slot, end_] at go
      have go' : t.probe (fun i => (es[i]?.map (·.1)).getD 0) (κ.hash k) (st.getD (t.probeStart (κ.hash k))) = some (.empty (way t.mask (κ.hash k) N) none) := by
        rw [est]
        exact go
      rw [go']
      exact wpAny_pure q
theorem look_for (Z : SetKind κ) (S : KSet κ s.heap a L es ep t) {x : Addr} {k : K} (hx : κ.is s.heap k x) (hn : k ∉ L.map (·.2)) (hr : κ.room A) {Q : SetFound → Shared → Prop}
    (q : ∀ N, way t.mask (κ.hash k) N ∉ t.place.toList → (∀ c, c < N → way t.mask (κ.hash k) c ∈ t.place.toList) → Q (.free (way t.mask (κ.hash k) N) false) s) : wpAny (model P w) A (setSearch a (.ref x) (κ.hash k) true) Q E s := by
  have sp := S.space
  obtain ⟨N, h1, h2, h3⟩ := S.tab.first (by rw [List.length_map]; omega) (κ.hash k)
  have small : 10 * SetTable.turns t.mask ≤ 1420 := by
    unfold SetTable.turns
    rcases S.tab.mok with e | e | e <;> omega
  unfold setSearch
  exact not_found Z S hx hn hr h1 h2 h3 (q N h2 h3) 100000 0 none rfl (Nat.zero_le _) (by omega)
end
end Hd
set_option maxHeartbeats 4000000
namespace Hd
open PySem PySem.Spec PyProof.Rows L2
theorem pick_all {α : Type} : ∀ l : List α, (List.range l.length).filterMap (fun i => l[i]?) = l
  | [] => rfl
  | x :: l => by
    rw [List.length_cons, List.range_succ_eq_map, List.filterMap_cons_some (show (x :: l)[0]? = some x from rfl), List.filterMap_map]
    congr 1
    exact pick_all l
theorem picked {α : Type} (l : List α) (g : α → Int × Value) (es : Array (Int × Value)) (he : ∀ i : Nat, es[i]? = (l[i]?).map g) : ∀ js : List Nat, (∀ j ∈ js, j < l.length) →
    js.filterMap (fun j => es[j]?) = (js.filterMap (fun j => l[j]?)).map g ∧ ((js.filterMap (fun j => l[j]?)).map fun p => (g p).1) = js.map fun j => (es.map (·.1)).getD j 0
  | [], _ => ⟨rfl, rfl⟩
  | j :: js, hb => by
    obtain ⟨i1, i2⟩ := picked l g es he js fun i hi => hb i (List.mem_cons_of_mem _ hi)
    have hj := hb j List.mem_cons_self
    have e1 : l[j]? = some l[j] := List.getElem?_eq_getElem hj
    have e2 : es[j]? = some (g l[j]) := by rw [he, e1]; rfl
    rw [List.filterMap_cons_some e1, List.filterMap_cons_some e2, i1, List.map_cons, List.map_cons, List.map_cons, i2]
    refine ⟨rfl, ?_⟩
    have e3 : (es.map (·.1))[j]? = some (g l[j]).1 := by rw [Array.getElem?_map, e2]; rfl
    have e4 : (es.map (·.1)).getD j 0 = (g l[j]).1 := by simp [Array.getD_eq_getD_getElem?, e3]
    rw [e4]
section
variable {P : Program} {w : World} {K : Type} [DecidableEq K] {κ : HeapKind P w K} {A : Around} {E : Value → Shared → Prop} {s : Shared}
variable {a : Addr} {L : List (Addr × K)} {es : Array (Int × Value)} {ep : Nat} {t : SetTable}
/-- the items in another table's order -/
theorem reordered {order : Array Nat} (hc : es.toList = L.map (cell κ)) (pm : order.toList.Perm (List.range L.length)) :
    ∃ M : List (Addr × K), (order.filterMap (es[·]?)).toList = M.map (cell κ) ∧ M.Perm L ∧ (M.map fun p => κ.hash p.2) = order.toList.map fun i => (es.map (·.1)).getD i 0 := by
  have he : ∀ i : Nat, es[i]? = (L[i]?).map (cell κ) := fun i => by rw [← Array.getElem?_toList, hc, List.getElem?_map]
  obtain ⟨e1, e2⟩ := picked L (cell κ) es he order.toList fun j hj => List.mem_range.mp (pm.mem_iff.mp hj)
  refine ⟨order.toList.filterMap (fun j => L[j]?), ?_, ?_, e2⟩
  · rw [← e1]
    first | rfl | simp
  · have := pm.filterMap fun j => L[j]?
    rwa [pick_all] at this
/-- the table laid anew, larger -/
theorem laid_anew (Z : SetKind κ) {ob : Obj} (hob : s.heap.get? a = some ob) (exa : ob.ExactSet) (hda : ob.data = .set es ep t) (hc : es.toList = L.map (cell κ)) (hp : t.place.size = es.size) (hm : t.dummies = #[]) (hl : es.size ≤ t.mask)
    (nd : (L.map (·.2)).Nodup) (objs : ∀ p ∈ L, κ.is s.heap p.2 p.1) (pl : t.plain = true) (ld : w.params.followText "set-order" = true ∨ t.led = true) (few : L.length < 64) {want M : Nat}
    (e0 : SetTable.sizeAbove want - 1 = M) (ok : MaskOk M) (le : SetTable.sizeAbove want ≤ 128) (sp : L.length * 5 < M * 3) {Q : Unit → Shared → Prop}
    (q : ∀ h' L' es' ep' t', Heap.SameBut a s.heap h' → KSet κ h' a L' es' ep' t' → L'.Perm L → Q () { s with heap := h' }) : wpAny (model P w) A (setRelay a want) Q E s := by
  have cnt : es.size = L.length := by
    have := congrArg List.length hc
    rwa [Array.length_toList, List.length_map] at this
  have fit : t.fits es.size = true := by
    show (t.place.size == es.size && decide (t.fill ≤ t.mask)) = true
    have e4 : t.fill = t.place.size + 0 := by
      show t.place.size + t.dummies.size = _
      rw [hm]
      rfl
    rw [e4, Bool.and_eq_true, beq_iff_eq, decide_eq_true_eq]
    omega
  obtain ⟨t2, order, e, pm, T, em, el, e5, _⟩ := relaid_ok t (hs := es.map (·.1)) (wanted := want) e0 ok (by rw [Array.size_map, cnt]; omega)
  rw [Array.size_map, cnt] at pm
  obtain ⟨M2, r1, r2, r3⟩ := reordered (κ := κ) hc pm
  rw [← r3] at T
  have cnt2 : (order.filterMap (es[·]?)).size = es.size := by
    have := congrArg List.length r1
    rw [Array.length_toList, List.length_map, r2.length_eq] at this
    rw [this, cnt]
  rw [setRelay_eq]
  refine wpAny_bind (wpAny_setState_of hob hda fit ?_)
  dsimp only
  refine wp_if_neg (by rw [sizeLine_eq]; omega) ?_
  try refine wpAny_bind (wpAny_pure ?_)
  rw [e]
  dsimp only
  refine wpAny_bind (wp_if_neg (by rw [cnt2]; simp) ?_)
  try refine wpAny_bind (wpAny_pure ?_)
  refine wpAny_pure ?_
  dsimp only
  refine wpAny_storeSet_of hob hda ?_ (by rw [cnt2, cnt, sizeLine_eq]; omega)
  have sb : Heap.SameBut a s.heap (s.heap.update a (Obj.putSet (order.filterMap (es[·]?)) t2)) := Heap.SameBut.update ..
  refine q _ M2 _ (ep + 1) t2 sb ⟨⟨_, store_at hob hda, ⟨exa.1, exa.2.1, exa.2.2⟩, rfl⟩, r1, T, (r2.map (·.2)).nodup_iff.mpr nd, fun p hp => keeps_but Z hob hda sb (objs p (r2.mem_iff.mp hp)), by rw [e5]; exact pl, by rw [el]; exact ld, ?_, by rw [r2.length_eq]; exact few⟩ r2
  rw [r2.length_eq, em]
  exact sp
/-- another item, unlike all -/
theorem put_newS (Z : SetKind κ) (S : KSet κ s.heap a L es ep t) {x : Addr} {k : K} (hx : κ.is s.heap k x) (hn : k ∉ L.map (·.2)) (hr : κ.room A) (few : L.length + 1 < 64) {Q : Bool → Shared → Prop}
    (q : ∀ b h' L' es' ep' t', Heap.SameBut a s.heap h' → KSet κ h' a L' es' ep' t' → L'.Perm ((x, k) :: L) → Q b { s with heap := h' }) : wpAny (model P w) A (setAddHashed a (.ref x) (κ.hash k)) Q E s := by
  obtain ⟨ob, hob, exa, hda⟩ := S.obj
  have cnt := S.count
  have space := S.space
  unfold setAddHashed
  refine wpAny_holding ?_
  rw [show (100000 : Nat) = 99999 + 1 from rfl]
  rw [setAddHashedIn_succ]
  refine wpAny_bind (wpAny_setState_of hob hda S.fits ?_)
  dsimp only
  refine wp_if_neg (by simp [byScan, Value.scannable]) ?_
  try refine wpAny_bind (wpAny_pure ?_)
  refine wpAny_bind (look_for Z S hx hn hr fun N free full => ?_)
  dsimp only
  refine wpAny_bind (wpAny_setState_of hob hda S.fits ?_)
  dsimp only
  obtain ⟨j1, j2, j3, j4, j5, j6, j7, j8, j9⟩ := S.tab.put free full
  have pl : (t.put (way t.mask (κ.hash k) N)).1.plain = true := j6.trans S.plainT
  generalize ept : t.put (way t.mask (κ.hash k) N) = two at j1 j3 j4 j5 j6 j7 j8 j9 pl ⊢
  obtain ⟨t1, i⟩ := two
  dsimp only at j1 j3 j4 j5 j6 j7 j8 j9 pl ⊢
  subst j1
  first
    | exact wpAny_bind (wp_if_pos pl (Z.byVal hx ?_))
    | (refine wpAny_bind ?_; refine wp_if_pos pl ?_; refine Z.byVal hx ?_)
    | (refine wp_if_pos pl ?_; refine wpAny_bind (Z.byVal hx ?_))
  simp only [if_true]
  generalize SetTable.below t.place (way t.mask (κ.hash k) N) = i at j2 j3 ⊢
  have rows : (SetTable.insertAt es i (κ.hash k, Value.ref x)).toList = (L.take i ++ (x, k) :: L.drop i).map (cell κ) := by
    rw [SetTable.toList_insertAt, S.cells, List.map_append, List.map_cons, List.map_take, List.map_drop]
    rfl
  have pm := put_perm L i (x, k)
  have len : (L.take i ++ (x, k) :: L.drop i).length = L.length + 1 := pm.length_eq
  have tab : TabOk t1 ((L.take i ++ (x, k) :: L.drop i).map fun p => κ.hash p.2) := by
    rw [List.map_append, List.map_cons, List.map_take, List.map_drop]
    exact j3
  have nd : ((L.take i ++ (x, k) :: L.drop i).map (·.2)).Nodup := (pm.map (·.2)).nodup_iff.mpr (List.nodup_cons.mpr ⟨hn, S.keys⟩)
  generalize SetTable.insertAt es i (κ.hash k, Value.ref x) = e1 at rows ⊢
  generalize L.take i ++ (x, k) :: L.drop i = L1 at pm len tab nd rows
  have cnt1 : e1.size = L.length + 1 := by
    have := congrArg List.length rows
    rwa [Array.length_toList, List.length_map, len] at this
  refine wpAny_bind (wpAny_storeSet_of hob hda ?_ (by rw [cnt1, sizeLine_eq]; omega))
  have sb : Heap.SameBut a s.heap (s.heap.update a (Obj.putSet e1 t1)) := Heap.SameBut.update ..
  have hob1 := store_at (es' := e1) (t' := t1) hob hda
  generalize s.heap.update a (Obj.putSet e1 t1) = h1 at sb hob1 ⊢
  have objs : ∀ p ∈ L1, κ.is h1 p.2 p.1 := fun p hp => by
    rcases List.mem_cons.mp (pm.mem_iff.mp hp) with z | z
    · rw [z]
      exact keeps_but Z hob hda sb hx
    · exact keeps_but Z hob hda sb (S.objs p z)
  have ld : w.params.followText "set-order" = true ∨ t1.led = true := by
    rw [j5]
    exact S.led
  by_cases full1 : t1.tooFull = true
  · have ge : (L.length + 1) * 5 ≥ t1.mask * 3 := by
      have z := full1
      unfold SetTable.tooFull at z
      rw [decide_eq_true_eq, j9, List.length_map] at z
      exact z
    have which : (t.mask = 7 ∧ L.length = 4) ∨ (t.mask = 31 ∧ L.length = 18) := by
      rw [j4] at ge
      rcases S.tab.mok with e | e | e
      · exact .inl ⟨e, by omega⟩
      · exact .inr ⟨e, by omega⟩
      · omega
    have sz1 : t1.place.size = e1.size := by
      have z := tab.sz
      rw [List.length_map, len] at z
      rw [z, cnt1]
    have anew : ∀ M, SetTable.sizeAbove (SetTable.grown (L.length + 1)) - 1 = M → MaskOk M → SetTable.sizeAbove (SetTable.grown (L.length + 1)) ≤ 128 → (L.length + 1) * 5 < M * 3 →
        wpAny (model P w) A (setRelay a (SetTable.grown (L.length + 1))) (fun _ s2 => wpAny (model P w) A (pure true) Q E s2) E { s with heap := h1 } := fun M g1 g2 g3 g4 => by
      refine laid_anew (s := { s with heap := h1 }) Z hob1 ⟨exa.1, exa.2.1, exa.2.2⟩ rfl rows sz1 tab.dm (by rw [cnt1, j4]; rcases which with ⟨z1, z2⟩ | ⟨z1, z2⟩ <;> omega) nd objs pl ld (by rw [len]; exact few) g1 g2 g3 (by rw [len]; exact g4) ?_
      exact fun h2 L2 es2 ep2 t2 sb2 S2 pm2 => wpAny_pure (q true h2 L2 es2 ep2 t2 (sb.trans sb2) S2 (pm2.trans pm))
    rw [cnt]
    first
      | (refine wpAny_bind ?_; refine wp_if_pos (by simp [full1]) ?_)
      | (refine wp_if_pos (by simp [full1]) ?_; refine wpAny_bind ?_)
    rcases which with ⟨_, z2⟩ | ⟨_, z2⟩
    · exact anew 31 (by rw [z2, size_20]) (.inr (.inl rfl)) (by rw [z2, size_20]; decide) (by omega)
    · exact anew 127 (by rw [z2, size_76]) (.inr (.inr rfl)) (by rw [z2, size_76]; decide) (by omega)
  · have lt : (L.length + 1) * 5 < t1.mask * 3 := by
      have z := full1
      unfold SetTable.tooFull at z
      rw [decide_eq_true_eq, j9, List.length_map] at z
      omega
    first
      | refine wp_if_neg (by simp [full1]) ?_
      | (refine wpAny_bind ?_; refine wp_if_neg (by simp [full1]) ?_; refine wpAny_pure ?_)
    exact wpAny_pure (q true h1 L1 e1 (ep + 1) t1 sb ⟨⟨_, hob1, ⟨exa.1, exa.2.1, exa.2.2⟩, rfl⟩, rows, tab, nd, objs, pl, ld, by rw [len]; exact lt, by rw [len]; exact few⟩ pm)
end
end Hd
set_option maxHeartbeats 8000000
namespace Hd
open PySem PySem.Spec PyProof.Rows L2
section
variable {P : Program} {w : World} {K : Type} [DecidableEq K] {κ : HeapKind P w K} {A : Around} {E : Value → Shared → Prop} {s : Shared}
theorem KSet.moved {h h' : Heap} {a : Addr} {L : List (Addr × K)} {es : Array (Int × Value)} {ep : Nat} {t : SetTable} (S : KSet κ h a L es ep t) (ha : ∀ o, h.get? a = some o → h'.get? a = some o) (ob : ∀ p ∈ L, κ.is h' p.2 p.1) : KSet κ h' a L es ep t := by
  obtain ⟨o, e, r⟩ := S.obj
  exact ⟨⟨o, ha o e, r⟩, S.cells, S.tab, S.keys, ob, S.plainT, S.led, S.space, S.few⟩
/-- the object that set() begins with -/
abbrev newSet (w : World) : Obj := { cls := Value.type "set", dict := none, data := Data.set #[] 0 (SetTable.fresh 0 0 (!w.params.followText "set-order")) }
theorem KSet.empty {h : Heap} {a : Addr} (e : h.get? a = some (newSet w)) : KSet κ h a [] #[] 0 (.fresh 0 0 (!w.params.followText "set-order")) := by
  refine ⟨⟨_, e, ⟨rfl, rfl, rfl⟩, rfl⟩, rfl, ⟨List.Pairwise.nil, rfl, rfl, .inl rfl, (fun _ z => nomatch z), fun i _ _ z => ?_⟩, List.nodup_nil, (fun _ z => nomatch z), rfl, ?_, by show 0 * 5 < 7 * 3; decide, by show 0 < 64; decide⟩
  · exact absurd z (by simp)
  · show _ ∨ (!w.params.followText "set-order") = true
    cases w.params.followText "set-order"
    · exact .inr rfl
    · exact .inl rfl
/-- the items go in, one by one -/
theorem filling (Z : SetKind κ) {I : Addr} {fp wr : List Addr} {G : Array GenState → Array GenState → Prop} {n : Nat} {Pv : Nat → Value → Prop} {St : Nat → Shared → Prop} {R : Result → Shared → Prop} (W : WalksS P w A.in1 I fp wr G n Pv St) (S : Addr) (Sf : S ∉ fp)
    (ks : List (Addr × K)) (hn : n = ks.length) (few : ks.length < 64) (un : (ks.map (·.2)).Nodup) (val : ∀ i v, Pv i v → ∃ p, ks[i]? = some p ∧ v = .ref p.1) (h0 : Heap) (k0 : ∀ p ∈ ks, κ.is h0 p.2 p.1) (S0 : h0.get? S = none) (wr0 : ∀ b ∈ wr, h0.get? b = none)
    (hr : κ.room A.in1) : ∀ (m i : Nat) (s : Shared), n - i = m → i ≤ n → St i s → (∀ b o, h0.get? b = some o → s.heap.get? b = some o) → (∃ L es ep t, KSet κ s.heap S L es ep t ∧ L.Perm (ks.take i)) →
      (∀ s' L es ep t, Moved (S :: wr) G s s' → KSet κ s'.heap S L es ep t → L.Perm ks → (∀ b o, h0.get? b = some o → s'.heap.get? b = some o) → R (.ok (.ret .none)) s') → codeAny (model P w) A (.builtin "set.update.loop" ⟨[.ref S, .ref I], []⟩) R s := by
  have Sw : S ∉ wr := fun z => Sf (W.sub _ z)
  have wide : ∀ b ∈ wr, b ∈ S :: wr := fun b z => List.mem_cons_of_mem _ z
  have old : ∀ {s1 s2 : Shared}, Moved wr G s1 s2 → (∀ b o, h0.get? b = some o → s1.heap.get? b = some o) → ∀ b o, h0.get? b = some o → s2.heap.get? b = some o := fun mv f b o e => mv.heap b o (fun z => by
    rw [wr0 b z] at e
    exact nomatch e) (f b o e)
  intro m
  induction m with
  | zero =>
    intro i s hm hi st f ⟨L, es, ep, t, T, pm⟩ fin
    have e : i = n := by omega
    subst e
    refine codeAny_builtin F.entry_set_update_loop ?_
    rw [Around.under_plainId F.plain_set_update_loop _]
    show wpAny _ A.in1 (pyNext (.ref I) >>= _) _ _ s
    refine wpAny_bind (W.done s _ _ st fun s2 mv => ?_)
    show wpAny _ A.in1 (ret Value.none) _ _ s2
    have f2 := old mv f
    rw [List.take_of_length_le (by omega)] at pm
    exact wpAny_pure (fin s2 L es ep t (mv.mono wide) (T.moved (fun o e => mv.heap S o Sw e) fun p hp => keeps_of Z f2 (k0 p (pm.mem_iff.mp hp))) pm f2)
  | succ m ih =>
    intro i s hm hi st f ⟨L, es, ep, t, T, pm⟩ fin
    have lt : i < n := by omega
    refine codeAny_builtin F.entry_set_update_loop ?_
    rw [Around.under_plainId F.plain_set_update_loop _]
    show wpAny _ A.in1 (pyNext (.ref I) >>= _) _ _ s
    refine wpAny_bind (W.item i s _ _ lt st fun v s2 pv st2 mv => ?_)
    obtain ⟨p, hp, rfl⟩ := val i v pv
    have f2 := old mv f
    have sub : ∀ q ∈ L, q ∈ ks := fun q z => List.mem_of_mem_take (pm.mem_iff.mp z)
    have T2 : KSet κ s2.heap S L es ep t := T.moved (fun o e => mv.heap S o Sw e) fun q z => keeps_of Z f2 (k0 q (sub q z))
    have hx : κ.is s2.heap p.2 p.1 := keeps_of Z f2 (k0 p (List.mem_of_getElem? hp))
    have nxt : ks.take (i + 1) = ks.take i ++ [p] := by
      rw [List.take_add_one, hp]
      rfl
    have fresh : p.2 ∉ L.map (·.2) := fun z => by
      have u : ((ks.take (i + 1)).map (·.2)).Nodup := by
        rw [List.map_take]
        exact List.Nodup.sublist (List.take_sublist _ _) un
      rw [nxt, List.map_append] at u
      have z2 := (pm.map (·.2)).mem_iff.mp z
      exact (List.nodup_append.mp u).2.2 _ z2 _ (by simp) rfl
    have cnt : L.length ≤ i := by
      rw [pm.length_eq, List.length_take]
      omega
    show wpAny _ A.in1 (holding [Value.ref p.1] (setAdd S (.ref p.1)) >>= _) _ _ s2
    refine wpAny_bind (wpAny_holding ?_)
    unfold setAdd
    refine wpAny_holding (wpAny_bind (κ.pyHash hr hx ?_))
    refine put_newS (s := { s2 with toks := s2.toks + κ.draws p.2 }) Z T2 hx fresh hr (by omega) fun b h' L' es' ep' t' sb T3 pm3 => ?_
    have f3 : ∀ b o, h0.get? b = some o → h'.get? b = some o := fun b o e => (sb.2 b (fun z => by
      rw [z, S0] at e
      exact nomatch e)).trans (f2 b o e)
    have pm4 : L'.Perm (ks.take (i + 1)) := by
      rw [nxt]
      exact (pm3.trans (pm.cons p)).trans (List.perm_append_singleton p (ks.take i)).symm
    refine wpAny_pure ⟨plainId_quiet F.plain_set_update_loop _, ih (i + 1) _ (by omega) lt (W.frame _ s2 _ _ st2 (Nat.le_add_right _ _) fun c hc o e => ?_) f3 ⟨L', es', ep', t', T3, pm4⟩ fun s3 L2 es2 ep2 t2 mv2 T4 pm5 f4 => ?_⟩
    · rw [sb.2 c (fun z => Sf (z ▸ hc))]
      exact e
    · refine fin s3 L2 es2 ep2 t2 (Moved.trans W.gtrans ((mv.mono wide).then_heap (Nat.le_add_right _ _) fun c o hc e => ?_) mv2) T4 pm5 f4
      rw [sb.2 c (fun z => hc (z ▸ List.mem_cons_self))]
      exact e
end
end Hd
set_option maxHeartbeats 8000000
namespace Hd
open PySem PySem.Spec PyProof.Rows L2
section
variable {P : Program} {w : World} {A : Around} {E : Value → Shared → Prop} {s : Shared}
theorem cls_tuple {n m : Nat} {b : Addr} {o : Obj} {vs : Array Value} {Q : Bool → Shared → Prop} (ho : s.heap.get? b = some o) (hc : o.cls = .type "tuple") (hd : o.data = .seq vs m)
    (each : ∀ v ∈ vs.toList, ∀ (A : Around) (E : Value → Shared → Prop) (Q : Bool → Shared → Prop), Q false s → wpAny (model P w) A (ofAClassStatement n v) Q E s) (q : Q false s) : wpAny (model P w) A (ofAClassStatement (n + 1) (.ref b)) Q E s := by
  have ty : s.TypeIs (.ref b) "tuple" := ⟨o, ho, hc⟩
  unfold ofAClassStatement
  refine wpAny_bind (wpAny_typeOf ty ?_)
  dsimp only
  have same : (("tuple" : String) == "tuple") = true := by decide
  simp only [same, Bool.not_true, if_true, if_false, Bool.false_eq_true]
  try refine wpAny_bind (wpAny_pure ?_)
  try simp only [if_false, Bool.not_true, Bool.false_eq_true]
  show wpAny _ _ (seqItems? (.ref b) >>= _) _ _ s
  refine wpAny_bind (wpAny_seqItems ho hd ?_)
  dsimp only
  refine wpAny_bind ?_
  show wpAny _ _ (forIn vs _ _) _ _ s
  rw [← Array.forIn_toList]
  refine wpAny_forIn_list _ (fun left acc s2 => acc.1 = none ∧ s2 = s ∧ ∀ v ∈ left, v ∈ vs.toList) _ ?_ ?_ _ _ ⟨rfl, rfl, fun v hv => hv⟩
  · rintro v left acc s2 ⟨ha, rfl, hl⟩
    refine wpAny_bind (each v (hl v List.mem_cons_self) _ _ _ ?_)
    simp only [if_false, Bool.false_eq_true]
    exact wpAny_pure ⟨rfl, rfl, fun u hu => hl u (List.mem_cons_of_mem _ hu)⟩
  · rintro ⟨x1, x2⟩ s2 ⟨ha, rfl, _⟩
    have ha' : x1 = none := ha
    subst ha'
    exact wpAny_pure q
theorem val_tuple {n m : Nat} {b : Addr} {o : Obj} {vs : Array Value} {Q : Bool → Shared → Prop} (ho : s.heap.get? b = some o) (hc : o.cls = .type "tuple") (hd : o.data = .seq vs m)
    (each : ∀ v ∈ vs.toList, ∀ (A : Around) (E : Value → Shared → Prop) (Q : Bool → Shared → Prop), Q true s → wpAny (model P w) A (hashByValue n v) Q E s) (q : Q true s) : wpAny (model P w) A (hashByValue (n + 1) (.ref b)) Q E s := by
  have ty : s.TypeIs (.ref b) "tuple" := ⟨o, ho, hc⟩
  unfold hashByValue
  refine wpAny_bind (wpAny_specialOf ty F.slot_tuple_hash.lookup ?_)
  show wpAny _ _ (seqItems? (.ref b) >>= _) _ _ s
  refine wpAny_bind (wpAny_seqItems ho hd ?_)
  refine wpAny_bind ?_
  show wpAny _ _ (forIn vs _ _) _ _ s
  rw [← Array.forIn_toList]
  refine wpAny_forIn_list _ (fun left acc s2 => acc.1 = none ∧ s2 = s ∧ ∀ v ∈ left, v ∈ vs.toList) _ ?_ ?_ _ _ ⟨rfl, rfl, fun v hv => hv⟩
  · rintro v left acc s2 ⟨ha, rfl, hl⟩
    refine wpAny_bind (each v (hl v List.mem_cons_self) _ _ _ ?_)
    simp only [if_false, Bool.not_true, Bool.false_eq_true]
    exact wpAny_pure ⟨rfl, rfl, fun u hu => hl u (List.mem_cons_of_mem _ hu)⟩
  · rintro ⟨x1, x2⟩ s2 ⟨ha, rfl, _⟩
    have ha' : x1 = none := ha
    subst ha'
    exact wpAny_pure q
/-- a tuple of tuples of ints, as a key -/
def kk (ls : List (List Int)) : NestedKey := .tup (ls.map fun l => .tup (l.map .num))
theorem flat_in {h : Heap} : ∀ (l : List Int) (vs : List Value), NestedAll h (l.map .num) vs → ∀ v ∈ vs, (∃ i t, v = Value.int i t) ∨ ∃ b, v = Value.bool b
  | [], _, x, v, hv => by
    cases x
    cases hv
  | i :: l, _, x, v, hv => by
    have x' : NestedAll h (NestedKey.num i :: l.map .num) _ := x
    cases x' with
    | cons x1 x2 =>
      rcases List.mem_cons.mp hv with e | hv
      · subst e
        cases x1 with
        | bool e => exact .inr ⟨_, rfl⟩
        | int i t => exact .inl ⟨_, _, rfl⟩
      · exact flat_in l _ x2 v hv
theorem nested_in {h : Heap} : ∀ (ls : List (List Int)) (vs : List Value), NestedAll h (ls.map fun l => NestedKey.tup (l.map .num)) vs → ∀ v ∈ vs, ∃ (b : Addr) (o : Obj) (us : Array Value) (m : Nat), v = .ref b ∧ h.get? b = some o ∧ o.cls = .type "tuple" ∧ o.data = .seq us m ∧
    ∀ u ∈ us.toList, (∃ i t, u = Value.int i t) ∨ ∃ b, u = Value.bool b
  | [], _, x, v, hv => by
    cases x
    cases hv
  | l :: ls, _, x, v, hv => by
    have x' : NestedAll h (NestedKey.tup (l.map .num) :: ls.map fun l => NestedKey.tup (l.map .num)) _ := x
    cases x' with
    | cons x1 x2 =>
      rcases List.mem_cons.mp hv with e | hv
      · subst e
        cases x1 with
        | tup h1 h2 h3 h4 => exact ⟨_, _, _, _, rfl, h1, h2, h3, flat_in l _ h4⟩
      · exact nested_in ls _ x2 v hv
/-- the kind of such keys -/
def pairKind (P : Program) (w : World) : HeapKind P w NestedKey where
  is := fun h k a => (nestedKind P w).is h k a ∧ ∃ ls, k = kk ls
  hash := (nestedKind P w).hash
  draws := (nestedKind P w).draws
  room := (nestedKind P w).room
  inj := fun x y => (nestedKind P w).inj x.1 y.1
  keeps := fun x e ed f => ⟨(nestedKind P w).keeps x.1 e ed f, x.2⟩
  pyHash := fun r x q => (nestedKind P w).pyHash r x.1 q
  eqBool := fun r x y q => (nestedKind P w).eqBool r x.1 y.1 q
  quiet := fun x q => (nestedKind P w).quiet x.1 q
theorem pair_parts {h : Heap} {k : NestedKey} {b : Addr} (x : (pairKind P w).is h k b) : ∃ (o : Obj) (vs : Array Value) (m : Nat), h.get? b = some o ∧ o.cls = .type "tuple" ∧ o.data = .seq vs m ∧
    ∀ v ∈ vs.toList, ∃ (b : Addr) (o : Obj) (us : Array Value) (m : Nat), v = .ref b ∧ h.get? b = some o ∧ o.cls = .type "tuple" ∧ o.data = .seq us m ∧ ∀ u ∈ us.toList, (∃ i t, u = Value.int i t) ∨ ∃ b, u = Value.bool b := by
  obtain ⟨⟨x, _⟩, ls, rfl⟩ := x
  have x' : NestedIs h (.tup (ls.map fun l => .tup (l.map .num))) (.ref b) := x
  cases x' with
  | tup h1 h2 h3 h4 => exact ⟨_, _, _, h1, h2, h3, nested_in ls _ h4⟩
theorem pairKind_set : SetKind (pairKind P w) where
  stay := ⟨fun f x => ⟨nestedKind_stays.stays f x.1, x.2⟩, fun x => nestedKind_stays.tuple x.1⟩
  noCls := fun {A E s k b Q} x q => by
    obtain ⟨o, vs, m, h1, h2, h3, h4⟩ := pair_parts x
    refine cls_tuple (n := 7) h1 h2 h3 (fun v hv A E Q q => ?_) q
    obtain ⟨c, o2, us, m2, rfl, g1, g2, g3, g4⟩ := h4 v hv
    refine cls_tuple (n := 6) g1 g2 g3 (fun u hu A E Q q => ?_) q
    rcases g4 u hu with ⟨i, t, rfl⟩ | ⟨z, rfl⟩
    · exact wpAny_pure q
    · exact wpAny_pure q
  byVal := fun {A E s k b Q} x q => by
    obtain ⟨o, vs, m, h1, h2, h3, h4⟩ := pair_parts x
    refine val_tuple (n := 7) h1 h2 h3 (fun v hv A E Q q => ?_) q
    obtain ⟨c, o2, us, m2, rfl, g1, g2, g3, g4⟩ := h4 v hv
    refine val_tuple (n := 6) g1 g2 g3 (fun u hu A E Q q => ?_) q
    rcases g4 u hu with ⟨i, t, rfl⟩ | ⟨z, rfl⟩
    · exact wpAny_pure q
    · exact wpAny_pure q
end
end Hd
set_option maxHeartbeats 8000000
namespace Hd
open PySem PySem.Spec PyProof.Rows L2
section
variable {P : Program} {w : World} {K : Type} [DecidableEq K] {κ : HeapKind P w K} {A : Around} {E : Value → Shared → Prop} {s : Shared}
set_option maxHeartbeats 16000000 in
/-- set(xs), the items all unlike -/
theorem set_made (Z : SetKind κ) {l : Addr} {items : Array Value} (ks : List (Addr × K)) {Q : Value → Shared → Prop} (calm : A.handled = none) (lst : s.heap.IsList l items) (refs : items.toList = ks.map fun p => Value.ref p.1)
    (hk : ∀ p ∈ ks, κ.is s.heap p.2 p.1) (few : ks.length < 64) (un : (ks.map (·.2)).Nodup) (hr : κ.room A.in1.in1.in1)
    (q : ∀ (h' : Heap) (tk : Nat) L es ep t, KSet κ h' s.heap.objs.size L es ep t → L.Perm ks → (∀ b o, s.heap.get? b = some o → h'.get? b = some o) → Q (.ref s.heap.objs.size) { s with heap := h', toks := tk }) :
    wpAny (model P w) A (call (.type "set") [.ref l]) Q E s := by
  have cnt : items.size = ks.length := by
    have := congrArg List.length refs
    rwa [Array.length_toList, List.length_map] at this
  obtain ⟨c, tl, hmro⟩ := F.called_set.mro
  have g1 := F.called_set.made
  have g2 := F.called_set.sub
  refine wpAny_call (codeAny_of_tree ?_)
  show wpAny _ _ (callAny (.type "set") _) _ _ _
  refine wpAny_pure ⟨Code.quiet_builtin _ (by decide +kernel), ?_⟩
  refine codeAny_builtin F.entry_type_call ?_
  rw [Around.under_plain (weight_type_call_type "set" [.ref l] []) rfl]
  have g3 := F.called_set.notType
  have g4 := F.called_set.canCreate
  have g5 := F.typeCall_set_1 (.ref l)
  repeat (any_goals (first | assumption | wp_step))
  refine codeAny_mono (code_set_led1 (.ref l) (E := E) (Q₁ := fun ob s1 => ob = .ref s.heap.objs.size ∧ s1 = { s with heap := s.heap.push (newSet w) }) ⟨rfl, rfl⟩) fun r s1 hr1 => ?_
  cases r with
  | error e => exact hr1
  | ok fl =>
    cases fl with
    | ret ob =>
      obtain ⟨rfl, rfl⟩ := hr1
      have atS : (s.heap.push (newSet w)).get? s.heap.objs.size = some (newSet w) := Heap.get?_push_size _ rfl
      have tyS : Shared.TypeIs { s with heap := s.heap.push (newSet w) } (.ref s.heap.objs.size) "set" := ⟨_, atS, rfl⟩
      have g6 := F.called_set.init.lookup
      have g7 := F.called_set.init.bind (.ref s.heap.objs.size)
      repeat (any_goals (first | assumption | wp_step))
      refine codeAny_mono (codeAny_call_builtin (R := wants (fun r s2 => r = .none ∧ ∃ h' tk L es ep t, s2 = { s with heap := h', toks := tk } ∧ KSet κ h' s.heap.objs.size L es ep t ∧ L.Perm ks ∧ (∀ b o, s.heap.get? b = some o → h'.get? b = some o)) E)
        F.called_set.init.plain F.entry_set_init (check_set_init_1 tyS ?_)) fun r2 s2 hr2 => ?_
      · obtain ⟨ol, hol, hcl, nl, hdl⟩ := lst
        obtain ⟨ocls, odict, odata, oslots⟩ := ol
        simp only at hcl hdl
        subst hcl hdl
        have hol2 : (s.heap.push (newSet w)).get? l = some { cls := .type "list", dict := odict, data := .seq items nl, slots := oslots } := Heap.get?_push_of_some _ hol
        have g8 := F.sub_list_set
        have g9 := F.sub_list_frozenset
        have ga : (Value.type "list" == Value.type "dict") = false := by decide
        have lst2 : (s.heap.push (newSet w)).IsList l items := ⟨_, hol2, rfl, nl, rfl⟩
        unfold Builtin.«set.__init__» noKeywords Builtin.Frozenset.updateFrom
        generalize ePI : pyIter = PI
        wp_walk
        subst ePI
        refine wpAny_pyIter_list lst2 ?_
        refine wpAny_bind (wpAny_runValue ?_)
        have ltl : l < s.heap.objs.size := Heap.lt_size hol
        have sz : (s.heap.push (newSet w)).objs.size = s.heap.objs.size + 1 := Heap.size_push ..
        have calm3 : A.in1.in1.in1.handled = none := by simp [calm]
        have none_at : ∀ b, s.heap.objs.size ≤ b → s.heap.get? b = none := fun b hb => Heap.get?_none_of_le hb
        have neI : l ≠ (s.heap.push (newSet w)).objs.size := by
          rw [sz]
          exact Nat.ne_of_lt (Nat.lt_succ_of_lt ltl)
        have apart : s.heap.objs.size ∉ [(s.heap.push (newSet w)).objs.size, l] := by
          rw [sz]
          simp only [List.mem_cons, List.not_mem_nil, or_false, not_or]
          exact ⟨Nat.ne_of_lt (Nat.lt_succ_self _), Nat.ne_of_gt ltl⟩
        have val : ∀ (i : Nat) (v : Value), items[i]? = some v → ∃ p, ks[i]? = some p ∧ v = .ref p.1 := fun i v hv => by
          rw [← Array.getElem?_toList, refs, List.getElem?_map] at hv
          obtain ⟨p, e1, e2⟩ := Option.map_eq_some_iff.mp hv
          exact ⟨p, e1, e2.symm⟩
        refine filling (κ := κ) Z ((Walks.list calm3 _ l neI items).toS) s.heap.objs.size apart ks cnt few un val s.heap hk (none_at _ (Nat.le_refl _)) (fun b hb => none_at b (by
            rw [List.mem_singleton.mp hb, sz]
            exact Nat.le_succ _)) hr (items.size - 0) 0 _ (by omega) (Nat.zero_le _) ⟨⟨_, Heap.get?_push_size _ rfl, rfl, rfl⟩, lst2.push _⟩ (fun b o e => Heap.get?_push_of_some _ (Heap.get?_push_of_some _ e)) ?start ?end_
        case start => exact ⟨[], #[], 0, _, KSet.empty (Heap.get?_push_of_some _ atS), List.Perm.refl _⟩
        case end_ =>
          rintro ⟨h', gs, dr, tk, os⟩ L es ep t mv T pm f
          have e1 : gs = s.gens := mv.gens
          have e2 : dr = s.drawn := mv.drawn
          have e3 : os = s.os := mv.os
          subst e1 e2 e3
          show wpAny _ _ _ _ _ _
          refine wpAny_pure ?_
          show wpAny _ _ (ret Value.none) _ _ _
          exact wpAny_pure ⟨rfl, h', tk, L, es, ep, t, rfl, T, pm, f⟩
      · cases r2 with
        | error e => exact hr2
        | ok fl2 =>
          cases fl2 with
          | ret r =>
            obtain ⟨rfl, h', tk, L, es, ep, t, rfl, T, pm, f⟩ := hr2
            repeat (any_goals (first | assumption | wp_step))
            exact q _ _ _ _ _ _ T pm f
          | _ => exact hr2.elim
    | _ => exact hr1.elim
end
end Hd
set_option maxHeartbeats 8000000
/-! Pairs of a tuple of ints and a step: sorted, in sets. -/
namespace Hd
open PySem PySem.Spec PyProof.Rows L2
/-- (heaps, step) at b: the heaps at c, the step at d -/
structure It where
  b : Addr
  c : Addr
  d : Addr
  ns : List Int
  i : Nat
  j : Nat
def It.At (K : PySem.W.Frag) (H : Hp) (x : It) : Prop := SqT K H x.b [.ref x.c, .ref x.d] ∧ SqT K H x.c (x.ns.map V.int) ∧ SqT K H x.d [.int (x.i : Int), .int (x.j : Int)]
def It.data (x : It) : PyData := .tuple [.tuple (x.ns.map .int), .tuple [.int (x.i : Int), .int (x.j : Int)]]
def It.key (x : It) : NestedKey := kk [x.ns, [(x.i : Int), (x.j : Int)]]
def It.row (x : It) : Addr × NestedKey := (x.b, x.key)
def itLe : It → It → Bool := PySem.W.dataLe false It.data
theorem It.At.same {K : PySem.W.Frag} {H H' : Hp} {x : It} (e : Same H H') (h : x.At K H) : x.At K H' := ⟨Same.tup e h.1, Same.tup e h.2.1, Same.tup e h.2.2⟩
theorem toks_ints : ∀ (xs ys : List Int) (r r' : List (Int ⊕ List Nat)), PySem.W.keyToksAll (xs.map .int) ++ r = PySem.W.keyToksAll (ys.map .int) ++ r' → xs = ys ∧ r = r'
  | [], [], r, r', e => by
    simp only [List.map_nil, PySem.W.keyToksAll, List.cons_append, List.nil_append, List.cons.injEq, true_and] at e
    exact ⟨rfl, e⟩
  | [], y :: ys, r, r', e => by
    simp [PySem.W.keyToksAll] at e
  | x :: xs, [], r, r', e => by
    simp [PySem.W.keyToksAll] at e
  | x :: xs, y :: ys, r, r', e => by
    simp only [List.map_cons, PySem.W.keyToksAll, PySem.W.keyToks, List.cons_append, List.nil_append, List.cons.injEq, true_and, Sum.inl.injEq] at e
    obtain ⟨i1, i2⟩ := toks_ints xs ys r r' e.2
    exact ⟨by rw [e.1, i1], i2⟩
theorem toks_it {x y : It} (e : PySem.W.keyToks x.data = PySem.W.keyToks y.data) : x.ns = y.ns ∧ x.i = y.i ∧ x.j = y.j := by
  unfold It.data at e
  simp only [PySem.W.keyToks, PySem.W.keyToksAll, List.cons.injEq, true_and] at e
  obtain ⟨e1, e2⟩ := toks_ints _ _ _ _ e
  simp at e2
  exact ⟨e1, by omega, by omega⟩
theorem itLe_total : PySem.W.TotalLe itLe := PySem.W.sortLe_total _ false _
theorem itLe_anti {x y : It} (h1 : itLe x y = true) (h2 : itLe y x = true) : x.ns = y.ns ∧ x.i = y.i ∧ x.j = y.j := by
  refine toks_it ((listOrd itemOrd).total _ _ ?_ ?_)
  · have : (!PySem.W.dataLt x.data y.data) = true := h2
    simpa [PySem.W.dataLt] using this
  · have : (!PySem.W.dataLt y.data x.data) = true := h1
    simpa [PySem.W.dataLt] using this
theorem sorted_one : ∀ {l m : List It}, l.Perm m → (∀ x ∈ l, ∀ y ∈ l, itLe x y = true → itLe y x = true → x = y) → l.Pairwise (fun x y => itLe x y = true) → m.Pairwise (fun x y => itLe x y = true) → l = m
  | [], m, p, _, _, _ => (List.Perm.nil_eq p)
  | x :: l, [], p, _, _, _ => absurd (List.Perm.length_eq p) (by simp)
  | x :: l, y :: m, p, an, s1, s2 => by
    obtain ⟨a1, a2⟩ := List.pairwise_cons.mp s1
    obtain ⟨b1, b2⟩ := List.pairwise_cons.mp s2
    have e : x = y := by
      have hx : x ∈ y :: m := p.mem_iff.mp List.mem_cons_self
      have hy : y ∈ x :: l := p.mem_iff.mpr List.mem_cons_self
      rcases List.mem_cons.mp hx with z | z
      · exact z
      · rcases List.mem_cons.mp hy with u | u
        · exact u.symm
        · exact an x List.mem_cons_self y (List.mem_cons_of_mem _ u) (a1 y u) (b1 x z)
    subst e
    rw [sorted_one (List.Perm.cons_inv p) (fun u hu v hv => an u (List.mem_cons_of_mem _ hu) v (List.mem_cons_of_mem _ hv)) a2 b2]
theorem sort_same {l m : List It} (p : l.Perm m) (an : ∀ x ∈ m, ∀ y ∈ m, itLe x y = true → itLe y x = true → x = y) : l.mergeSort itLe = m.mergeSort itLe := by
  have p1 := List.mergeSort_perm l itLe
  have p2 := List.mergeSort_perm m itLe
  refine sorted_one ((p1.trans p).trans p2.symm) (fun x hx y hy => an x (p.mem_iff.mp (p1.mem_iff.mp hx)) y (p.mem_iff.mp (p1.mem_iff.mp hy))) (PySem.W.sort_pairwise itLe_total l) (PySem.W.sort_pairwise itLe_total m)
theorem perm_backS {α β : Type} (f : α → β) : ∀ {L M : List β}, L.Perm M → ∀ xs : List α, M = xs.map f → ∃ ys : List α, L = ys.map f ∧ ys.Perm xs := by
  intro L M p
  induction p with
  | nil => exact fun xs e => ⟨xs, e, List.Perm.refl _⟩
  | cons x p ih =>
    intro xs e
    obtain ⟨y, ys, rfl, e1, e2⟩ := List.map_eq_cons_iff.mp e.symm
    obtain ⟨zs, z1, z2⟩ := ih ys e2.symm
    exact ⟨y :: zs, by rw [List.map_cons, e1, z1], z2.cons y⟩
  | swap x y l =>
    intro xs e
    obtain ⟨u, us, rfl, e1, e2⟩ := List.map_eq_cons_iff.mp e.symm
    obtain ⟨v, vs, rfl, e3, e4⟩ := List.map_eq_cons_iff.mp e2
    exact ⟨v :: u :: vs, by rw [List.map_cons, List.map_cons, e1, e3, e4], List.Perm.swap _ _ _⟩
  | trans p q ih1 ih2 =>
    intro xs e
    obtain ⟨ys, y1, y2⟩ := ih2 xs e
    obtain ⟨zs, z1, z2⟩ := ih1 ys y1
    exact ⟨zs, z1, z2.trans y2⟩
end Hd
set_option maxHeartbeats 8000000
namespace Hd
open PySem PySem.Spec PyProof.Rows L2
theorem nums_all {h : Heap} : ∀ {us : List Value} {ns : List Int}, IntsAre us ns → NestedAll h (ns.map .num) us
  | _, _, .nil => .nil
  | _, _, .cons n t r => .cons (.int n t) (nums_all r)
theorem depth_nums : ∀ ns : List Int, NestedKey.depthAll (ns.map .num) = 0
  | [] => by simp [NestedKey.depthAll]
  | n :: ns => by
    have := depth_nums ns
    simp only [List.map_cons, NestedKey.depthAll, NestedKey.depth]
    omega
theorem it_depth (x : It) : x.data.depth = 2 := by
  have e1 := deep_ints x.ns
  unfold It.data
  simp only [PyData.depth, PyData.depthAll, e1]
  omega
theorem it_alike (x y : It) : PySem.W.alike x.data y.data = true := by
  unfold It.data
  have e1 := PySem.W.alike_ints x.ns y.ns
  simp [PySem.W.alike, PySem.W.alikeAll, e1]
section
variable {X : Cx} {pins : List (Addr × Obj)} {σ : L2.St} {H : Hp} {s : Shared}
/-- what stands at an item -/
theorem it_there (I : Inv X pins σ H s) {x : It} (h : x.At X.K H) : ∃ vs us : List Value, s.heap.IsTuple x.b #[.ref x.c, .ref x.d] ∧ s.heap.IsTuple x.c vs.toArray ∧ s.heap.IsTuple x.d us.toArray ∧ IntsAre vs x.ns ∧ IntsAre us [(x.i : Int), (x.j : Int)] := by
  obtain ⟨h1, h2, h3⟩ := h
  obtain ⟨a1, r1, t1, _⟩ := I.tuple h1
  obtain ⟨a2, r2, t2, _⟩ := I.tuple h2
  obtain ⟨a3, r3, t3, _⟩ := I.tuple (xs := [(x.i : Int), (x.j : Int)].map V.int) h3
  obtain ⟨u1, u2, rfl, e1, e2⟩ := vals2 r1
  cases e1
  cases e2
  exact ⟨a2, a3, t1, t2, t3, r2.ints, r3.ints⟩
theorem it_reads (I : Inv X pins σ H s) {x : It} (h : x.At X.K H) : Reads s.heap (.ref x.b) x.data [] := by
  obtain ⟨vs, us, ⟨o1, g1, c1, n1, d1⟩, ⟨o2, g2, c2, n2, d2⟩, ⟨o3, g3, c3, n3, d3⟩, r2, r3⟩ := it_there I h
  exact .tuple g1 c1 d1 (ReadsAll.cons (as := []) (bs := []) (.tuple g2 c2 d2 (by simpa using reads_ints (h := s.heap) r2)) (ReadsAll.cons (as := []) (bs := []) (.tuple g3 c3 d3 (by simpa using reads_ints (h := s.heap) r3)) .nil))
theorem it_is (I : Inv X pins σ H s) {x : It} (h : x.At X.K H) : (pairKind X.prog X.w).is s.heap x.key x.b := by
  obtain ⟨vs, us, ⟨o1, g1, c1, n1, d1⟩, ⟨o2, g2, c2, n2, d2⟩, ⟨o3, g3, c3, n3, d3⟩, r2, r3⟩ := it_there I h
  refine ⟨⟨?_, ?_⟩, _, rfl⟩
  · exact .tup g1 c1 d1 (.cons (.tup g2 c2 d2 (by simpa using nums_all (h := s.heap) r2)) (.cons (.tup g3 c3 d3 (by simpa using nums_all (h := s.heap) r3)) .nil))
  · have e1 := depth_nums x.ns
    have e2 := depth_nums [(x.i : Int), (x.j : Int)]
    show NestedKey.depth x.key ≤ 8
    unfold It.key kk
    simp only [List.map_cons, List.map_nil, NestedKey.depth, NestedKey.depthAll] at e2 ⊢
    rw [e1]
    omega
theorem refs_vals : ∀ (xs : List It), Vals (xs.map fun x => V.ref x.b) (xs.map fun x => Value.ref x.b)
  | [] => .nil
  | x :: xs => .cons rfl (refs_vals xs)
theorem refs_of : ∀ {xs : List It} {us : List Value}, Vals (xs.map fun x => V.ref x.b) us → us = xs.map fun x => Value.ref x.b
  | [], _, .nil => rfl
  | x :: xs, _, .cons r t => by
    cases r
    rw [refs_of t]
    rfl
theorem each_refs : ∀ (xs : List It) {R : Value → It → Prop}, (∀ x ∈ xs, R (.ref x.b) x) → PySem.W.EachIs R (xs.map fun x => Value.ref x.b) xs
  | [], _, _ => .nil
  | x :: xs, _, h => .cons (h x List.mem_cons_self) (each_refs xs fun y hy => h y (List.mem_cons_of_mem _ hy))
theorem refs_each : ∀ {us : List Value} {xs : List It}, PySem.W.EachIs (fun v x => v = Value.ref x.b) us xs → us = xs.map fun x => Value.ref x.b
  | _, _, .nil => rfl
  | _, _, .cons e t => by rw [e, refs_each t]; rfl
theorem its_sortable (xs : List It) : PySem.W.Sortable (xs.map It.data) := PySem.W.Sortable.tuples fun x => ⟨_, _, rfl⟩
theorem its_alike (xs : List It) : PySem.W.AllAlike (xs.map It.data) := PySem.W.AllAlike.of it_alike
/-- sorted(xs), a list of pairs -/
def rSortIts (K : PySem.W.Frag) : List V → Hp → VK → Prop := fun vs H Q => ∃ (l : Addr) (xs : List It), vs = [V.ref l] ∧ SqL K H l (xs.map fun x => V.ref x.b) ∧ (∀ x ∈ xs, x.At K H) ∧
  ∀ p, H p = none → Q (.ref p) (upd H p (.lst ((xs.mergeSort itLe).map fun x => V.ref x.b)))
theorem cr_sortIts (hu : X.A.units + 64 < cLine) : CallR X (.builtin "sorted") (rSortIts X.K) := by
  intro pins s σ H vs us Q I r h
  obtain ⟨l, xs, rfl, hl, hx, q⟩ := h
  rw [Vals.ref1 r]
  obtain ⟨its, rv, pl, hz⟩ := I.list hl
  have ev := refs_of rv
  subst ev
  have hlen : xs.length ≤ sizeLine := by rw [List.length_map] at hz; exact hz
  refine PySem.W.sorted_data (R := fun v x => v = Value.ref x.b) (enc := It.data) (bs := xs) pl.isList (each_refs xs fun _ _ => rfl) (each_refs xs fun x m => ⟨[], it_reads I (hx x m)⟩) (its_alike xs) (its_sortable xs) hlen (fun x m => by rw [it_depth]; omega) fun out hol e => ?_
  obtain ⟨n, hn⟩ := sortedAll_at s.heap (xs.map fun x => Value.ref x.b) out.toArray
  have eo := refs_each e
  refine ⟨.ref (s.heap.objs.size + 1), upd H (s.heap.objs.size + 1) (.lst ((xs.mergeSort itLe).map fun x => V.ref x.b)), I.laid (t' := s.toks) (fun b u e => sortedAll_old e) (Nat.le_succ _) ⟨?_, out, n, ?_, hn⟩, rfl, q _ (I.hok.fresh (Nat.le_succ _))⟩
  · rw [List.length_map, List.length_mergeSort]
    exact hlen
  · rw [eo]
    exact refs_vals _
/-- the set at a, the pairs in some order -/
structure SetN0 (P : Program) (w : World) (h : Heap) (a : Addr) (ys : List It) : Prop where
  ex : ∃ (es : Array (Int × Value)) (ep : Nat) (t : SetTable), SetAt h a es ep t ∧ t.fits es.size = true ∧ Ris t.place.toList ∧ (w.params.followText "set-order" = true ∨ t.led = true) ∧ (es.toList.map (·.2)).Perm (ys.map fun y => Value.ref y.b) ∧ es.size < 64
def SetN (P : Program) (w : World) (a : Addr) (ys : List It) : HO := .ext fun h => SetN0 P w h a ys
theorem setN_new {P : Program} {w : World} {H : Hp} {h : Heap} {a : Addr} {ys : List It} (R : SetN0 P w h a ys) : ObjOk P w H h a (SetN P w a ys) := by
  have ⟨es, ep, t, ⟨o, ho, r⟩, q⟩ := R.ex
  refine ⟨R, ⟨o, ho⟩, fun h1 h2 p k => ?_⟩
  have ⟨es', ep', t', ⟨o', ho', r'⟩, q'⟩ := SetN0.ex p
  exact ⟨⟨es', ep', t', ⟨o', k o' ho', r'⟩, q'⟩⟩
def rSetIts (K : PySem.W.Frag) (P : Program) (w : World) : List V → Hp → VK → Prop := fun vs H Q => ∃ (l : Addr) (xs : List It), vs = [V.ref l] ∧ SqL K H l (xs.map fun x => V.ref x.b) ∧ (∀ x ∈ xs, x.At K H) ∧ (xs.map It.key).Nodup ∧ xs.length < 64 ∧
  ∀ a, H a = none → Q (.ref a) (upd H a (SetN P w a xs))
theorem cr_setIts (hc : X.calm = true) (hu : X.A.units + 64 < cLine) : CallR X (.type "set") (rSetIts X.K X.prog X.w) := by
  intro pins s σ H vs us Q I r h
  obtain ⟨l, xs, rfl, hl, hx, un, few, q⟩ := h
  rw [Vals.ref1 r]
  obtain ⟨its, rv, pl, hz⟩ := I.list hl
  have ev := refs_of rv
  subst ev
  refine set_made (κ := pairKind X.prog X.w) pairKind_set (xs.map It.row) (I.ok.hd hc) pl.isList (by simp [It.row, Function.comp_def]) (fun p hp => ?_) (by rw [List.length_map]; exact few) (by rw [List.map_map]; exact un)
    (by show X.A.units + 1 + 1 + 1 + 8 < cLine; omega) fun h' tk L es ep t S pm k => ?_
  · obtain ⟨x, m, rfl⟩ := List.mem_map.mp hp
    exact it_is I (hx x m)
  · have pv : (es.toList.map (·.2)).Perm (xs.map fun y => Value.ref y.b) := by
      have e1 := pm.map fun p : Addr × NestedKey => Value.ref p.1
      rw [List.map_map] at e1
      rw [S.cells, List.map_map]
      exact e1
    obtain ⟨o, g1, g2, g3⟩ := S.obj
    have S0 : SetN0 X.prog X.w h' s.heap.objs.size xs := ⟨⟨es, ep, t, ⟨o, g1, g2.1, g3⟩, S.fits (s := { s with heap := h' }), S.tab.ris, S.led, pv, by rw [S.count (s := { s with heap := h' })]; exact S.few⟩⟩
    exact ⟨.ref s.heap.objs.size, upd H s.heap.objs.size (SetN X.prog X.w s.heap.objs.size xs), I.laid (t' := tk) k (Nat.le_refl _) (setN_new S0), rfl, q _ (I.hok.fresh (Nat.le_refl _))⟩
end
end Hd
set_option maxHeartbeats 8000000
/-! Steps, plans, what comes before: what is told and what is raised. -/
namespace Hd
open PySem PySem.Spec PyProof.Rows L2
def jv : Option Nat → V
  | none => .non
  | some k => .int (k : Int)
/-! ### plans -/
/-- what is wrong with a plan over n heaps -/
def plD (n : Int) : PyData → Option (Option Nat)
  | .tuple ds => if 20000 < ds.length then some none else ((List.range ds.length).find? fun i => !prD n (ds.getD i .none)).map some
  | _ => some none
theorem find_first {p : Nat → Bool} {n i : Nat} (hi : i < n) (hp : p i = true) (hb : ∀ j, j < i → p j = false) : (List.range n).find? p = some i := by
  induction n with
  | zero => omega
  | succ n ih =>
    rw [List.range_succ, List.find?_append]
    by_cases e : i < n
    · rw [ih e]; rfl
    · have : i = n := by omega
      subst this
      have h0 : (List.range i).find? p = none := List.find?_eq_none.mpr fun j hj => by
        rw [hb j (List.mem_range.mp hj)]; decide
      rw [h0]
      simp [hp]
theorem plD_at {n : Int} {ds : List PyData} {i : Nat} (hl : ¬ 20000 < ds.length) (hi : i < ds.length) (hp : prD n (ds.getD i .none) = false) (hb : ∀ j, j < i → prD n (ds.getD j .none) = true) : plD n (.tuple ds) = some (some i) := by
  unfold plD
  simp only
  rw [if_neg hl, find_first (p := fun i => !prD n (ds.getD i .none)) hi (by show (!prD n (ds.getD i .none)) = true; rw [hp]; rfl) fun j hj => by show (!prD n (ds.getD j .none)) = false; rw [hb j hj]; rfl]
  rfl
theorem plD_ok {n : Int} {ds : List PyData} (hl : ¬ 20000 < ds.length) (hb : ∀ j, j < ds.length → prD n (ds.getD j .none) = true) : plD n (.tuple ds) = none := by
  unfold plD
  simp only
  rw [if_neg hl, List.find?_eq_none.mpr fun j hj => by rw [hb j (List.mem_range.mp hj)]; decide]
  rfl
theorem plD_eq {n : Nat} {d : PyData} (h : plD n d = none) : ∃ ps, d = dP ps ∧ Stp n ps ∧ ps.length ≤ 20000 := by
  unfold plD at h
  split at h
  · rename_i ds
    split at h
    · cases h
    · rename_i hl
      have h' := Option.map_eq_none_iff.mp h
      rw [List.find?_eq_none] at h'
      have each : ∀ e ∈ ds, prD n e = true := fun e he => by
        obtain ⟨i, hi, ei⟩ := List.mem_iff_getElem.mp he
        have := h' i (List.mem_range.mpr hi)
        rw [List.getD_eq_getElem?_getD, List.getElem?_eq_getElem hi, ei] at this
        simpa using this
      have key : ∀ xs : List PyData, (∀ e ∈ xs, prD n e = true) → ∃ ps : List (Nat × Nat), xs = ps.map dS ∧ Stp n ps := fun xs => by
        induction xs with
        | nil => exact fun _ => ⟨[], rfl, fun p hp => nomatch hp⟩
        | cons x xs ih =>
          intro hx
          obtain ⟨ps, e, hs⟩ := ih fun e he => hx e (List.mem_cons_of_mem _ he)
          obtain ⟨i, j, e1, h1, h2, h3⟩ := prD_eq (hx x List.mem_cons_self)
          refine ⟨(i, j) :: ps, by rw [e, e1]; rfl, fun p hp => ?_⟩
          rcases List.mem_cons.mp hp with rfl | hp
          · exact ⟨h1, h2, h3⟩
          · exact hs p hp
      obtain ⟨ps, e, hs⟩ := key ds each
      refine ⟨ps, by rw [e]; rfl, hs, ?_⟩
      rw [e, List.length_map] at hl
      omega
  · cases h
theorem dS_inj {p q : Nat × Nat} (h : dS p = dS q) : p = q := by
  obtain ⟨a, b⟩ := p
  obtain ⟨c, d⟩ := q
  unfold dS at h
  simp only [PyData.tuple.injEq, List.cons.injEq, PyData.int.injEq, and_true] at h
  obtain ⟨h1, h2⟩ := h
  have h1 : a = c := by omega
  have h2 : b = d := by omega
  rw [h1, h2]
theorem mapS_inj : ∀ {ps qs : List (Nat × Nat)}, ps.map dS = qs.map dS → ps = qs
  | [], [], _ => rfl
  | [], _ :: _, h => by simp at h
  | _ :: _, [], h => by simp at h
  | x :: a, y :: b, h => by
    simp only [List.map_cons, List.cons.injEq] at h
    rw [dS_inj h.1, mapS_inj h.2]
theorem dP_inj {ps qs : List (Nat × Nat)} (h : dP ps = dP qs) : ps = qs := mapS_inj (PyData.tuple.inj h)
theorem plD_dP {n : Nat} {ps : List (Nat × Nat)} (h : Stp n ps) (hl : ps.length ≤ 20000) : plD n (dP ps) = none := by
  refine plD_ok (by rw [List.length_map]; omega) fun j hj => ?_
  rw [List.length_map] at hj
  have e : (ps.map dS).getD j .none = dS ps[j] := by simp [List.getD_eq_getElem?_getD, hj]
  obtain ⟨h1, h2, h3⟩ := h ps[j] (List.getElem_mem hj)
  rw [e]
  have := prD_dS (n := n) (i := ps[j].1) (j := ps[j].2)
  rw [decide_eq_true h1, decide_eq_true h2, decide_eq_true h3] at this
  exact this
theorem dp_dS {K : PySem.W.Frag} {H : Hp} {v : V} {q : Nat × Nat} (h : Dp K H v (dS q)) : ∃ a, v = .ref a ∧ SqT K H a [.int (q.1 : Int), .int (q.2 : Int)] := by
  unfold dS at h
  cases h with
  | tup hS hA =>
    cases hA with
    | cons a b =>
    cases b with
    | cons b c =>
    cases c
    cases a
    cases b
    exact ⟨_, rfl, hS⟩
theorem rows_of {K : PySem.W.Frag} {H : Hp} : ∀ {vs : List V} {ps : List (Nat × Nat)}, DpAll K H vs (ps.map dS) → ∃ rs : List Srow, vs = (rs.map fun p => V.ref p.1) ∧ rs.map (·.2) = ps ∧ ∀ p ∈ rs, SqT K H p.1 [.int (p.2.1 : Int), .int (p.2.2 : Int)]
  | [], [], _ => ⟨[], rfl, rfl, fun p hp => nomatch hp⟩
  | v :: vs, q :: ps, .cons h t => by
    obtain ⟨a, rfl, ha⟩ := dp_dS h
    obtain ⟨rs, e1, e2, h3⟩ := rows_of t
    refine ⟨(a, q) :: rs, by rw [e1]; rfl, by rw [List.map_cons, e2], fun p hp => ?_⟩
    rcases List.mem_cons.mp hp with rfl | hp
    · exact ha
    · exact h3 p hp
theorem plan_of {K : PySem.W.Frag} {H : Hp} {v : V} {n : Nat} {ps : List (Nat × Nat)} (h : Dp K H v (dP ps)) (hs : Stp n ps) : ∃ (t : Addr) (rs : List Srow), v = .ref t ∧ PlanAt K H t n rs ∧ rs.map (·.2) = ps := by
  unfold dP at h
  cases h with
  | tup hS hA =>
    obtain ⟨rs, e1, e2, h3⟩ := rows_of hA
    subst e1
    refine ⟨_, rs, rfl, ⟨hS, fun p hp => ⟨h3 p hp, ?_⟩⟩, e2⟩
    have := hs p.2 (by rw [← e2]; exact List.mem_map.mpr ⟨p, hp, rfl⟩)
    exact this
/-- the first step that can't be made, and the heaps ahead of it (behind all) -/
def jd : List Int → List (Nat × Nat) → Nat → Option Nat × List Int
  | ns, [], _ => (none, ns)
  | ns, s :: r, k => if can ns s.1 s.2 = true then jd (mv ns s.1 s.2) r (k + 1) else (some k, ns)
theorem jd_append : ∀ (l r : List (Nat × Nat)) (ns : List Int) (k : Nat), jd ns (l ++ r) k = (match jd ns l k with
    | (none, m) => jd m r (k + l.length)
    | (some b, m) => (some b, m))
  | [], r, ns, k => rfl
  | p :: l, r, ns, k => by
    show (if can ns p.1 p.2 = true then jd (mv ns p.1 p.2) (l ++ r) (k + 1) else (some k, ns)) = _
    by_cases h : can ns p.1 p.2 = true
    · have e : jd ns (p :: l) k = jd (mv ns p.1 p.2) l (k + 1) := if_pos h
      have e2 : k + 1 + l.length = k + (p :: l).length := by
        rw [List.length_cons]
        omega
      rw [if_pos h, e, jd_append l r _ (k + 1), e2]
    · have e : jd ns (p :: l) k = (some k, ns) := if_neg h
      rw [if_neg h, e]
theorem len_jd : ∀ (ps : List (Nat × Nat)) (ns : List Int) (k : Nat), (jd ns ps k).2.length = ns.length
  | [], _, _ => rfl
  | p :: r, ns, k => by
    show (if can ns p.1 p.2 = true then jd (mv ns p.1 p.2) r (k + 1) else (some k, ns)).2.length = _
    split
    · rw [len_jd r, len_mv]
    · rfl
/-- one step further along a plan -/
theorem jd_next {ns m : List Int} {ps : List (Nat × Nat)} {i : Nat} (hi : i < ps.length) (h : jd ns (ps.take i) 0 = (none, m)) :
    (can m ps[i].1 ps[i].2 = true → jd ns (ps.take (i + 1)) 0 = (none, mv m ps[i].1 ps[i].2)) ∧ (can m ps[i].1 ps[i].2 = false → jd ns ps 0 = (some i, m)) := by
  have el : (ps.take i).length = i := by
    rw [List.length_take]
    omega
  refine ⟨fun hc => ?_, fun hc => ?_⟩
  · rw [List.take_add_one, List.getElem?_eq_getElem hi]
    show jd ns (ps.take i ++ [ps[i]]) 0 = _
    rw [jd_append, h]
    show (if can m ps[i].1 ps[i].2 = true then _ else _) = _
    rw [if_pos hc]
    rfl
  · have e : ps = ps.take i ++ (ps[i] :: ps.drop (i + 1)) := by
      rw [← List.drop_eq_getElem_cons hi, List.take_append_drop]
    have e2 : jd ns (ps.take i ++ (ps[i] :: ps.drop (i + 1))) 0 = (some i, m) := by
      rw [jd_append, h]
      show jd m (ps[i] :: ps.drop (i + 1)) (0 + (ps.take i).length) = _
      show (if can m ps[i].1 ps[i].2 = true then _ else (some (0 + (ps.take i).length), m)) = _
      rw [hc, if_neg (by decide), el, Nat.zero_add]
    rw [← e] at e2
    exact e2
theorem jd_all {ns m : List Int} {ps : List (Nat × Nat)} {i : Nat} {a : List Int} (hi : i < ps.length) (h : jd ns ps 0 = (none, m)) (ha : jd ns (ps.take i) 0 = (none, a)) : can a ps[i].1 ps[i].2 = true := by
  cases hc : can a ps[i].1 ps[i].2 with
  | true => rfl
  | false =>
    have := (jd_next hi ha).2 hc
    rw [h] at this
    cases this
theorem jd_run : ∀ {ps : List (Nat × Nat)} {ns m : List Int} {k : Nat}, run ns ps = some m → jd ns ps k = (none, m)
  | [], ns, m, k, h => by
    have : ns = m := Option.some.inj h
    rw [this]; rfl
  | p :: r, ns, m, k, h => by
    have h' : (if can ns p.1 p.2 = true then run (mv ns p.1 p.2) r else none) = some m := h
    show (if can ns p.1 p.2 = true then jd (mv ns p.1 p.2) r (k + 1) else (some k, ns)) = _
    split at h'
    · rename_i hc
      rw [if_pos hc]
      exact jd_run h'
    · cases h'
/-! ### what comes before -/
def lastS (ns : List Int) : List (Nat × Nat) := (prs ns.length).filter fun q => dbl (ns.getD q.2 0)
abbrev Bf := List Int × Nat × Nat
def bLe (x y : Bf) : Bool := itLe ⟨0, 0, 0, x.1, x.2.1, x.2.2⟩ ⟨0, 0, 0, y.1, y.2.1, y.2.2⟩
def It.bf (x : It) : Bf := (x.ns, x.i, x.j)
def befF (ns : List Int) : List Bf := ((lastS ns).map fun q => (erl ns q.1 q.2, q.1, q.2)).mergeSort bLe
theorem bef_sorted {ns : List Int} {xs : List It} (h1 : ∀ x ∈ xs, x.ns = erl ns x.i x.j) (h2 : (xs.map fun x => (x.i, x.j)) = lastS ns) : (xs.mergeSort itLe).map It.bf = befF ns := by
  rw [show itLe = fun a b => bLe a.bf b.bf from rfl, List.map_mergeSort (s := bLe) fun a _ b _ => rfl]
  unfold befF
  rw [← h2, List.map_map]
  congr 1
  refine List.map_congr_left fun x hx => ?_
  show (x.ns, x.i, x.j) = (erl ns x.i x.j, x.i, x.j)
  rw [h1 x hx]
/-! ### the promises -/
def spBpInit (K : PySem.W.Frag) : Sp := fun vs H Q _ => ∃ (a C : Addr) (v : V), vs = [.ref a, v] ∧ OexC K C ∧ PySem.W.findIn K (.ref C) "index" = some none ∧ H a = some (exo a C none) ∧
  ∀ dx, H dx = none → dx ≠ a → Q .non (upd (upd H dx (exd dx [(("index" : Str), v)])) a (exo a C (some dx)))
/-- what the top has of BadPlan -/
structure BpT (P : Program) (w : World) (K : PySem.W.Frag) (mg : Str → Option Value) (base : Heap) (C : Addr) : Prop where
  gC : mg "BadPlan" = some (.ref C)
  ox : OexC K C
  no : PySem.W.findIn K (.ref C) "index" = some none
  init : ∃ (fI : Addr) (fdI : FuncData), PySem.W.findIn K (.ref C) "__init__" = some (some (.ref fI)) ∧ PySem.W.typeIn K (.ref fI) = some (.type "function") ∧ Binds K fdI ["self", "index"] [] ∧ FnOk P w K mg base CX0 1 fI fdI ["self", "index"] (spBpInit K)
/-- what the field holds -/
def bpF (o : Option Nat) : List (Str × V) := [(("index" : Str), jv o)]
theorem bp_made {P : Program} {w : World} {K : PySem.W.Frag} {mg : Str → Option Value} {base : Heap} {C : Addr} (B : BpT P w K mg base C) {H : Hp} {o : Option Nat} {E : XK} {x : V} (hx : x = jv o) (h : ∀ d H', Same H H' → H' d = some (.xd (bpF o)) → E (.ref C) (some d) H') :
    [x].length ≤ 1000 ∧ ∀ a, H a = none → spBpInit K (.ref a :: ([x] ++ [])) (upd H a (exo a C none))
      (fun v H2 => v = .non ∧ ∃ (d : Addr) (fs : List (Str × V)), H2 a = some (exo a C (some d)) ∧ H2 d = some (exd d fs) ∧ H d = none ∧ E (.ref C) (some d) (upd (del H2 a) d (.xd fs))) (fun _ _ _ => False) := by
  subst hx
  refine ⟨by show 1 ≤ 1000; decide, fun a ha => ⟨a, C, _, rfl, B.ox, B.no, upd_same, fun dx hd hne => ⟨rfl, dx, _, upd_same, (by rw [upd_ne hne]; exact upd_same), ?_, ?_⟩⟩⟩
  · rw [upd_ne hne] at hd
    exact hd
  · rw [upd_ne hne] at hd
    refine h dx _ (fun z o e => ?_) upd_same
    have n1 : z ≠ dx := ne_of_none e hd
    have n2 : z ≠ a := ne_of_none e ha
    rw [upd_ne n1, del_ne n2, upd_ne n2, upd_ne n1, upd_ne n2]
    exact e
def spChkPlanD (K : PySem.W.Frag) (B : Addr) : Sp := fun vs H Q E => ∃ (n : Nat) (v : V) (d : PyData), vs = [.int (n : Int), v] ∧ Dp K H v d ∧ (plD n d = none → ∀ H', Same H H' → Q .non H') ∧ (∀ o, plD n d = some o → ∀ x H', Same H H' → H' x = some (.xd (bpF o)) → E (.ref B) (some x) H')
/-- bad heaps are raised -/
def BadH (K : PySem.W.Frag) (C : Addr) (H : Hp) (E : XK) (v : V) (d : PyData) : Prop := Dp K H v d ∧ (hpsD d = false → ∀ H', Same H H' → E (.ref C) none H')
def spStepsX (K : PySem.W.Frag) (C : Addr) : Sp := fun vs H Q E => ∃ (v : V) (d : PyData), vs = [v] ∧ BadH K C H E v d ∧ ∀ ns, d = dI ns → hpsB ns = true → ∀ (l : Addr) (qs : List Srow) (H' : Hp), Same H H' → H l = none → PrL K H' l ns.length qs → qs.map (·.2) = due ns → Q (.ref l) H'
def spSteppedX (K : PySem.W.Frag) (C S : Addr) : Sp := fun vs H Q E => ∃ (v u : V) (d e : PyData), vs = [v, u] ∧ BadH K C H E v d ∧ Dp K H u e ∧ ∀ ns, d = dI ns → hpsB ns = true → (stD ns e = false → ∀ H', Same H H' → E (.ref S) none H') ∧
  ∀ i j, e = dS (i, j) → i < ns.length → j < ns.length → i ≠ j → can ns i j = true → ∀ (p : Addr) (H' : Hp), Same H H' → H p = none → H' p = some (.tup ((mv ns i j).map V.int)) → Q (.ref p) H'
/-- bad plans are raised -/
def BadP (K : PySem.W.Frag) (B : Addr) (H : Hp) (E : XK) (n : Nat) (e : PyData) : Prop := ∀ o, plD n e = some o → ∀ x H', Same H H' → H' x = some (.xd (bpF o)) → E (.ref B) (some x) H'
def spJudgeX (K : PySem.W.Frag) (C B : Addr) : Sp := fun vs H Q E => ∃ (v u : V) (d e : PyData), vs = [v, u] ∧ BadH K C H E v d ∧ Dp K H u e ∧ ∀ ns, d = dI ns → hpsB ns = true → BadP K B H E ns.length e ∧
  ∀ ps, e = dP ps → Stp ns.length ps → ps.length ≤ 20000 → ∀ H', Same H H' → Q (jv (jd ns ps 0).1) H'
def spMadeX (K : PySem.W.Frag) (C B : Addr) : Sp := fun vs H Q E => ∃ (v u : V) (d e : PyData), vs = [v, u] ∧ BadH K C H E v d ∧ Dp K H u e ∧ ∀ ns, d = dI ns → hpsB ns = true → BadP K B H E ns.length e ∧
  ∀ ps, e = dP ps → Stp ns.length ps → ps.length ≤ 20000 → (∀ b m, jd ns ps 0 = (some b, m) → ∀ x H', Same H H' → H' x = some (.xd (bpF (some b))) → E (.ref B) (some x) H') ∧ ∀ m, jd ns ps 0 = (none, m) → ∀ p H', Same H H' → SqT K H' p (m.map V.int) → Q (.ref p) H'
def spBehindAllT (K : PySem.W.Frag) : Sp := fun vs H Q _ => ∃ (t u : Addr) (ns m : List Int) (ps : List Srow), vs = [.ref t, .ref u] ∧ SqT K H t (ns.map V.int) ∧ PlanAt K H u ns.length ps ∧ jd ns (ps.map (·.2)) 0 = (none, m) ∧
  ∀ (p : Addr) (H' : Hp), Same H H' → SqT K H' p (m.map V.int) → Q (.ref p) H'
def spBeforeX (K : PySem.W.Frag) (C : Addr) : Sp := fun vs H Q E => ∃ (v : V) (d : PyData), vs = [v] ∧ BadH K C H E v d ∧ ∀ ns, d = dI ns → hpsB ns = true → ∀ (l : Addr) (ys : List It) (H' : Hp), Same H H' → H l = none → H' l = some (.lst (ys.map fun x => V.ref x.b)) → (∀ x ∈ ys, x.At K H') → ys.map It.bf = befF ns → Q (.ref l) H'
def spFirstX (K : PySem.W.Frag) (C : Addr) : Sp := fun vs H Q E => ∃ (v : V) (d : PyData), vs = [v] ∧ BadH K C H E v d ∧ ∀ ns, d = dI ns → hpsB ns = true → ∀ H', Same H H' → Q (.bl (!(ns.map dbl).any id)) H'
section
variable {P : Program} {w : World} {K : PySem.W.Frag} {mg : Str → Option Value} {base : Heap}
abbrev s_BadPlan_init : Stmt := inClass (top 6) 0
theorem sc_BadPlan_init : FnScope ["self", "index"] ["self", "index"] (defScope s_BadPlan_init) := ⟨rfl, rfl, rfl, by decide +kernel, rfl, by decide +kernel, by decide +kernel⟩
theorem ok_bp_init {f : Addr} {fd : FuncData} (F : Fun K "__init__" "BadPlan.__init__" s_BadPlan_init f fd) : FnOk P w K mg base CX0 1 f fd ["self", "index"] (spBpInit K) := by
  refine F.ok sc_BadPlan_init (fun vs H Q E h => ?_) (fun cdv A outer s H vs Q E hr h => ?_)
  · obtain ⟨a, C, v, rfl, _⟩ := h
    rfl
  · obtain ⟨a, C, v, rfl, O, no, ha, k⟩ := h
    refine ⟨_, pss_one (ps_ost (pv 0) (pv 1)), ?_⟩
    exact ⟨_, rfl, _, rfl, a, C, rfl, O, no, .inl ⟨ha, fun dx hd hne => k dx hd hne⟩⟩
theorem ok_check_planD {f C : Addr} {fd : FuncData} (F : Fun K "check_plan" "check_plan" s_check_plan f fd) (T : Tp mg) (c_LP : ∃ t, mg "LONGEST_PLAN" = some (.int 20000 t)) (B : BpT P w K mg base C) (C_is_pair_of : Cal P w K mg base CX0 2 "is_pair_of" ["many", "value"] (spIsPair K)) :
    FnOk P w K mg base (L2N.CX P w) 3 f fd ["many", "plan"] (spChkPlanD K C) := by
  refine okN F sc_check_plan (fun vs H Q E h => ?_) (fun cdv A outer s H vs Q E hr h => ?_)
  · obtain ⟨n, v, d, rfl, _⟩ := h
    rfl
  · obtain ⟨n, v, d, rfl, hd, k1, k2⟩ := h
    obtain ⟨fI, fdI, iI, tI, bI, GI⟩ := B.init
    refine ⟨_, (pss_cons (ps_if (PW.pt (pw_or (pt_not (pt_val (pe_callB call_isi (by rfl) T.isinstance (by decide +kernel) (pa_cons (pv 1) (pa_cons (pe_bltn (v := .ty "tuple") (u := .type "tuple") (by rfl) T.tuple (by decide +kernel) rfl) pa_nil))))) (pw_or1 (pt_cmpR op_gt (pe_callB call_len_seq (by rfl) T.len PySem.boot_len (pa_cons (pv 1) pa_nil)) (pe_gint rfl c_LP) (nomark _))))) (pss_one (L2N.ps_raise rfl (L2N.takes_of rfl rfl rfl rfl) (pmkN_oex B.ox iI tI GI (hr.mono (by decide)) bI .nil pass0 rfl B.gC (pa_cons pe_non pa_nil)))) pss_nil)
      (pss_one (ps_for (passes_of rfl) rfl (pi_enumT (by rfl) T.enumerate (pa_cons (pv 1) pa_nil)) (pg_tup rfl (pgs_cons (pg_name (i := 2) sc_check_plan.nd rfl (Or.inl rfl)) (pgs_cons (pg_name (i := 3) sc_check_plan.nd rfl (Or.inl rfl)) pgs_nil)))
      (pss_one (ps_if (pt_not (pt_val (pe_cal C_is_pair_of hr rfl pass0 (pa_cons (pv 0) (pa_cons (pv 3) pa_nil))))) (pss_one (L2N.ps_raise rfl (L2N.takes_of rfl rfl rfl rfl) (pmkN_oex B.ox iI tI GI (hr.mono (by decide)) bI .nil pass0 rfl B.gC (pa_cons (pv 2) pa_nil)))) pss_nil))))), ?_⟩
    have wh : plD n d = some none → _ := fun e => bp_made B (H := H) (E := E) (x := .non) rfl fun x H' s' hx => k2 none e x H' s' hx
    cases hd with
    | int v => exact ⟨_, rfl, _, _, _, _, false, rfl, ClsV.ty _, .base (.int _), kit_ty (by decide +kernel), _, rfl, iteT (wh rfl)⟩
    | bl b => exact ⟨_, rfl, _, _, _, _, false, rfl, ClsV.ty _, .base (.bl _), kit_ty (by decide +kernel), _, rfl, iteT (wh rfl)⟩
    | non => exact ⟨_, rfl, _, _, _, _, false, rfl, ClsV.ty _, .base .non, kit_ty (by decide +kernel), _, rfl, iteT (wh rfl)⟩
    | str x => exact ⟨_, rfl, _, _, _, _, false, rfl, ClsV.ty _, .base (.str _), kit_ty (by decide +kernel), _, rfl, iteT (wh rfl)⟩
    | lst hS _ => exact ⟨_, rfl, _, _, _, _, false, rfl, ClsV.ty _, tyx_lst hS, kit_ty (by decide +kernel), _, rfl, iteT (wh rfl)⟩
    | @tup t xs ds hS hA =>
    refine ⟨_, rfl, _, _, _, _, true, rfl, ClsV.ty _, tyx_tup hS, kit_ty (by decide +kernel), _, rfl, ?_⟩
    refine iteF ?_
    have hxl := dpall_len hA
    refine ⟨_, rfl, t, _, rfl, .inr hS, _, _, rfl, rfl, _, rfl, ?_⟩
    by_cases hz : 20000 < xs.length
    · rw [decide_eq_true (show (20000 : Int) < (xs.length : Int) by omega)]
      refine iteT (wh ?_)
      unfold plD
      simp only
      rw [if_pos (by omega)]
    · rw [decide_eq_false (show ¬ (20000 : Int) < (xs.length : Int) by omega)]
      refine iteF ?_
      refine ⟨_, rfl, t, _, rfl, hS, for_it (walk_enumT (K := K) (a := t) (xs := xs)) (fun i σ H1 => (∃ v1 v2 : Option V, σ = [some (.int (n : Int)), some (.ref t), v1, v2]) ∧ Same H H1 ∧ ∀ j, j < i → prD (n : Int) (ds.getD j .none) = true) ⟨⟨none, none, rfl⟩, Same.refl _, fun j hj => absurd hj (Nat.not_lt_zero j)⟩ (fun i σ H1 _ ⟨_, s1, _⟩ => Same.tup s1 hS) ?_ ?_⟩
      · rintro i x σ H1 H2 hi ⟨⟨v1, v2, rfl⟩, s1, hb⟩ ⟨TT, x1, x2, rfl, hT, rfl, e1, e2⟩
        have e1' := Option.some.inj e1
        subst e1'
        dsimp only at e2
        obtain ⟨dx, hdx, hx⟩ := dpall_get hA e2
        have hg : ds.getD i .none = dx := by rw [List.getD_eq_getElem?_getD, hdx]; rfl
        have s2 : Same H (upd H1 TT (.tup [.int (i : Nat), x2])) := s1.trans (Same.new hT)
        refine ⟨TT, _, rfl, SqT.of upd_same, rfl, _, _, rfl, _, _, rfl, rfl, ?_⟩
        refine ⟨_, rfl, _, rfl, _, dx, _, rfl, dp_same s2 hx, _, rfl, ?_⟩
        cases hp : prD (n : Int) dx with
        | false =>
          refine iteT ⟨_, rfl, ?_⟩
          exact bp_made B (o := some i) rfl fun y H' s' hy => k2 (some i) (plD_at (by omega) (by omega) (by rw [hg]; exact hp) hb) y H' (s2.trans s') hy
        | true =>
          refine iteF ⟨⟨_, _, rfl⟩, s2, fun j hj => ?_⟩
          by_cases e : j = i
          · rw [e, hg]; exact hp
          · exact hb j (by omega)
      · rintro σ H1 ⟨⟨v1, v2, rfl⟩, s1, hb⟩
        exact k1 (plD_ok (by omega) fun j hj => hb j (by omega)) _ s1
abbrev s_steps : Stmt := top 47
theorem sc_steps : FnScope ["heaps"] ["heaps"] (defScope s_steps) := ⟨rfl, rfl, rfl, by decide +kernel, rfl, by decide +kernel, by decide +kernel⟩
theorem ok_steps {f C : Addr} {fd : FuncData} (F : Fun K "steps" "steps" s_steps f fd) (C_check_heaps : Cal P w K mg base (L2N.CX P w) 3 "check_heaps" ["heaps"] (spChkHeapsD K C)) (C_steps_from : Cal P w K mg base CX0 2 "steps_from" ["heaps"] (spSteps K)) : FnOk P w K mg base (L2N.CX P w) 4 f fd ["heaps"] (spStepsX K C) := by
  refine okN F sc_steps (fun vs H Q E h => ?_) (fun cdv A outer s H vs Q E hr h => ?_)
  · obtain ⟨v, d, rfl, _⟩ := h
    rfl
  · obtain ⟨v, d, rfl, hb, k⟩ := h
    refine ⟨_, (pss_cons (ps_expr (pe_cal C_check_heaps hr rfl (L2N.passes_call (L2N.takes_of rfl rfl rfl rfl) (fun _ _ _ _ h => h)) (pa_cons (pv 0) pa_nil)))
      (pss_one (ps_ret (pe_cal C_steps_from hr rfl pass0 (pa_cons (pv 0) pa_nil))))), ?_⟩
    refine ⟨_, rfl, v, d, rfl, hb.1, fun hz H1 s1 => ?_, hb.2⟩
    obtain ⟨ns, rfl, hg⟩ := hpsD_eq hz
    obtain ⟨t, rfl, hS⟩ := dp_dI hb.1
    exact ⟨_, rfl, t, ns, rfl, Same.tup s1 hS, (hps_len hg).2, fun l qs H' s' hl a b => k ns rfl hg l qs H' (s1.trans s') (none_back s1 hl) a b⟩
abbrev s_stepped : Stmt := top 48
theorem sc_stepped : FnScope ["heaps", "step"] ["heaps", "step"] (defScope s_stepped) := ⟨rfl, rfl, rfl, by decide +kernel, rfl, by decide +kernel, by decide +kernel⟩
theorem ok_stepped {f C S : Addr} {fd : FuncData} (F : Fun K "stepped" "stepped" s_stepped f fd) (C_check_heaps : Cal P w K mg base (L2N.CX P w) 3 "check_heaps" ["heaps"] (spChkHeapsD K C))
    (C_check_step : Cal P w K mg base (L2N.CX P w) 3 "check_step" ["heaps", "step"] (spChkStep K S)) (C_behind : Cal P w K mg base CX0 2 "behind" ["heaps", "step"] (spBehind K)) : FnOk P w K mg base (L2N.CX P w) 4 f fd ["heaps", "step"] (spSteppedX K C S) := by
  refine okN F sc_stepped (fun vs H Q E h => ?_) (fun cdv A outer s H vs Q E hr h => ?_)
  · obtain ⟨v, u, d, e, rfl, _⟩ := h
    rfl
  · obtain ⟨v, u, d, e, rfl, hb, he, k⟩ := h
    refine ⟨_, (pss_cons (ps_expr (pe_cal C_check_heaps hr rfl (L2N.passes_call (L2N.takes_of rfl rfl rfl rfl) (fun _ _ _ _ h => h)) (pa_cons (pv 0) pa_nil)))
      (pss_cons (ps_expr (pe_cal C_check_step hr rfl (L2N.passes_call (L2N.takes_of rfl rfl rfl rfl) (fun _ _ _ _ h => h)) (pa_cons (pv 0) (pa_cons (pv 1) pa_nil))))
      (pss_one (ps_ret (pe_cal C_behind hr rfl pass0 (pa_cons (pv 0) (pa_cons (pv 1) pa_nil))))))), ?_⟩
    refine ⟨_, rfl, v, d, rfl, hb.1, fun hz H1 s1 => ?_, hb.2⟩
    obtain ⟨ns, rfl, hg⟩ := hpsD_eq hz
    obtain ⟨t, rfl, hS⟩ := dp_dI hb.1
    obtain ⟨k1, k2⟩ := k ns rfl hg
    have S1 := Same.tup s1 hS
    have he1 := dp_same s1 he
    refine ⟨_, rfl, _, rfl, t, u, e, ns, rfl, S1, he1, fun hc => ?_, fun hc => k1 hc _ s1⟩
    obtain ⟨i, j, rfl, hi, hj, hij, hcan⟩ := stD_pr hc
    obtain ⟨a, rfl, U1⟩ := dp_dS he1
    exact ⟨_, rfl, _, rfl, t, a, ns, i, j, rfl, S1, U1, hi, hj, hij, fun p H2 s2 hp hp2 => k2 i j rfl hi hj hij hcan p H2 (s1.trans s2) (none_back s1 hp) hp2⟩
abbrev s_judge : Stmt := top 49
theorem sc_judge : FnScope ["heaps", "plan", "stand", "index", "step"] ["heaps", "plan"] (defScope s_judge) := ⟨rfl, rfl, rfl, by decide +kernel, rfl, by decide +kernel, by decide +kernel⟩
theorem ok_judge {f C B : Addr} {fd : FuncData} (F : Fun K "judge" "judge" s_judge f fd) (T : Tp mg) (C_check_heaps : Cal P w K mg base (L2N.CX P w) 3 "check_heaps" ["heaps"] (spChkHeapsD K C)) (C_check_plan : Cal P w K mg base (L2N.CX P w) 3 "check_plan" ["many", "plan"] (spChkPlanD K B))
    (C_can_be_made : Cal P w K mg base CX0 1 "can_be_made" ["heaps", "step"] (spCan K)) (C_behind : Cal P w K mg base CX0 2 "behind" ["heaps", "step"] (spBehind K)) : FnOk P w K mg base (L2N.CX P w) 4 f fd ["heaps", "plan"] (spJudgeX K C B) := by
  refine okN F sc_judge (fun vs H Q E h => ?_) (fun cdv A outer s H vs Q E hr h => ?_)
  · obtain ⟨v, u, d, e, rfl, _⟩ := h
    rfl
  · obtain ⟨v, u, d, e, rfl, hb, he, k⟩ := h
    refine ⟨_, (pss_cons (ps_expr (pe_cal C_check_heaps hr rfl (L2N.passes_call (L2N.takes_of rfl rfl rfl rfl) (fun _ _ _ _ h => h)) (pa_cons (pv 0) pa_nil)))
      (pss_cons (ps_expr (pe_cal C_check_plan hr rfl (L2N.passes_call (L2N.takes_of rfl rfl rfl rfl) (fun _ _ _ _ h => h)) (pa_cons (pe_callB call_len_seq (by rfl) T.len PySem.boot_len (pa_cons (pv 0) pa_nil)) (pa_cons (pv 1) pa_nil))))
      (pss_cons (ps_set (i := 2) sc_judge.nd rfl (Or.inl rfl) (pv 0))
      (pss_cons (ps_for (passes_of rfl) rfl (pi_enumT (by rfl) T.enumerate (pa_cons (pv 1) pa_nil)) (pg_tup rfl (pgs_cons (pg_name (i := 3) sc_judge.nd rfl (Or.inl rfl)) (pgs_cons (pg_name (i := 4) sc_judge.nd rfl (Or.inl rfl)) pgs_nil)))
      (pss_cons (ps_if (pt_not (pt_val (pe_cal C_can_be_made hr rfl pass0 (pa_cons (pv 2) (pa_cons (pv 4) pa_nil))))) (pss_one (ps_ret (pv 3))) pss_nil)
      (pss_one (ps_set (i := 2) sc_judge.nd rfl (Or.inl rfl) (pe_cal C_behind hr rfl pass0 (pa_cons (pv 2) (pa_cons (pv 4) pa_nil)))))))
      (pss_one (ps_ret pe_non)))))), ?_⟩
    refine ⟨_, rfl, v, d, rfl, hb.1, fun hz H1 s1 => ?_, hb.2⟩
    obtain ⟨ns, rfl, hg⟩ := hpsD_eq hz
    obtain ⟨t, rfl, hS⟩ := dp_dI hb.1
    obtain ⟨k1, k2⟩ := k ns rfl hg
    refine ⟨_, rfl, t, _, rfl, .inr (Same.tup s1 hS), _, rfl, ns.length, u, e, by rw [List.length_map], dp_same s1 he, fun hp H2 s2 => ?_, fun o ho x H' s' hx => k1 o ho x H' (s1.trans s') hx⟩
    obtain ⟨pl, rfl, hst, hpl⟩ := plD_eq hp
    obtain ⟨u, ps, rfl, hP, eps⟩ := plan_of he hst
    have k := k2 pl rfl hst hpl
    subst eps
    have s2' := s1.trans s2
    refine ⟨_, rfl, _, rfl, u, _, rfl, Same.tup s2' hP.tp, for_it (walk_enumT (K := K) (a := u) (xs := ps.map fun p => V.ref p.1)) (fun i σ H3 => ∃ (ta : Addr) (m : List Int) (v1 v2 : Option V), σ = [some (.ref t), some (.ref u), some (.ref ta), v1, v2] ∧ Same H H3 ∧ SqT K H3 ta (m.map V.int) ∧ m.length = ns.length ∧ jd ns ((ps.map (·.2)).take i) 0 = (none, m))
      ⟨t, ns, none, none, rfl, s2', Same.tup s2' hS, rfl, rfl⟩ (fun i σ H1 _ ⟨_, _, _, _, _, s1, _⟩ => Same.tup s1 hP.tp) ?_ ?_⟩
    · rintro i x σ H3 H4 hi ⟨ta, m, v1, v2, rfl, s3, hT, hlen, hj⟩ ⟨TT, x1, x2, rfl, hTT, rfl, e1, e2⟩
      rw [List.length_map] at hi
      have e1' := Option.some.inj e1
      subst e1'
      dsimp only at e2
      rw [List.getElem?_map, List.getElem?_eq_getElem hi] at e2
      have e2' := Option.some.inj e2
      subst e2'
      have s4 : Same H3 (upd H3 TT (.tup [.int (i : Nat), .ref ps[i].1])) := Same.new hTT
      obtain ⟨q1, q2, q3, q4⟩ := hP.st ps[i] (List.getElem_mem hi)
      have hi' : i < (ps.map (·.2)).length := by rw [List.length_map]; exact hi
      have eg : (ps.map (·.2))[i] = ps[i].2 := List.getElem_map _
      have N := jd_next hi' hj
      rw [eg] at N
      refine ⟨TT, _, rfl, SqT.of upd_same, rfl, _, _, rfl, _, _, rfl, rfl, ?_⟩
      refine ⟨_, rfl, _, rfl, ta, ps[i].1, m, _, _, rfl, Same.tup s4 hT, Same.tup (s3.trans s4) q1, by rw [hlen]; exact q2, by rw [hlen]; exact q3, _, rfl, ?_⟩
      cases hc : can m ps[i].2.1 ps[i].2.2 with
      | false =>
        refine iteT ⟨_, rfl, ?_⟩
        have e := N.2 hc
        rw [e] at k
        exact k _ (s3.trans s4)
      | true =>
        refine iteF ⟨_, rfl, _, rfl, ta, ps[i].1, m, _, _, rfl, Same.tup s4 hT, Same.tup (s3.trans s4) q1, by rw [hlen]; exact q2, by rw [hlen]; exact q3, q4, fun p H5 s5 hp hp5 => ?_⟩
        exact ⟨p, mv m ps[i].2.1 ps[i].2.2, _, _, rfl, (s3.trans s4).trans s5, SqT.of hp5, by rw [len_mv]; exact hlen, N.1 hc⟩
    · rintro σ H3 ⟨ta, m, v1, v2, rfl, s3, hT, hlen, hj⟩
      rw [List.length_map, List.take_of_length_le (by rw [List.length_map]; exact Nat.le_refl _)] at hj
      rw [hj] at k
      exact k _ s3
end
end Hd
set_option maxHeartbeats 4000000
/-! Two heaps: what is told and what is raised. -/
namespace Hd
open PySem PySem.Spec PyProof.Rows L2
def spPow : Sp := fun vs H Q _ => ∃ e m : Nat, vs = [.int (e : Int), .int (m : Int)] ∧ 0 < m ∧ m < 2 ^ 200 ∧ Q (.int ((2 ^ e % m : Nat) : Int)) H
theorem two_good {a b : Nat} (s0 : 0 < a + b) (ha : a ≤ 10 ^ 30) (hb : b ≤ 10 ^ 30) : hpsB [(a : Int), (b : Int)] = true := by
  unfold hpsB inR
  simp only [Bool.and_eq_true, decide_eq_true_eq, List.all_eq_true, List.mem_map]
  refine ⟨⟨by show 2 ≤ 2; decide, by show 2 ≤ 6; decide⟩, fun x ⟨y, hy, e⟩ => ?_, ?_⟩
  · subst e
    simp only [id, Bool.and_eq_true, decide_eq_true_eq]
    rcases List.mem_cons.mp hy with e | hy
    · subst e
      omega
    · have e : y = (b : Int) := by simpa using hy
      subst e
      omega
  · show 0 < [(a : Int), (b : Int)].sum
    simp only [List.sum_cons, List.sum_nil]
    omega
theorem in_two {a b : Nat} : inV (.int 0) (two a b) = (decide (a = 0) || decide (b = 0)) := by
  unfold inV two
  simp only [List.any_cons, List.any_nil, Bool.or_false]
  have e : ∀ n : Nat, eqV (.int (n : Int)) (.int 0) = decide (n = 0) := fun n => by
    unfold eqV
    by_cases h : n = 0
    · subst h
      first | rfl | simp
    · have : ¬ ((n : Int) = 0) := by omega
      simp [h, this]
  rw [e, e]
theorem two_map (a b : Nat) : two a b = [(a : Int), (b : Int)].map V.int := rfl
/-- two heaps -/
abbrev dN (a b : Nat) : PyData := dI [(a : Int), (b : Int)]
def twD : PyData → Bool
  | .tuple ds => hpsD (.tuple ds) && decide (ds.length = 2)
  | _ => false
theorem twD_hps {d : PyData} (h : hpsD d = false) : twD d = false := by
  unfold twD
  split
  · rw [h, Bool.false_and]
  · rfl
theorem twD_dI {ns : List Int} (h : hpsB ns = true) : twD (dI ns) = decide (ns.length = 2) := by
  show (hpsD (dI ns) && decide ((ns.map PyData.int).length = 2)) = _
  rw [hpsD_dI, h, Bool.true_and, List.length_map]
theorem two_of {ns : List Int} (h : hpsB ns = true) (hl : ns.length = 2) : ∃ a b : Nat, ns = [(a : Int), (b : Int)] ∧ 0 < a + b ∧ a ≤ 10 ^ 30 ∧ b ≤ 10 ^ 30 := by
  obtain ⟨g1, g2, g3, g4, g5⟩ := hps_good h
  match ns, hl with
  | [x, y], _ =>
    have x0 := g3 0
    have y0 := g3 1
    have x0 : 0 ≤ x := x0
    have y0 : 0 ≤ y := y0
    obtain ⟨a, rfl⟩ := Int.eq_ofNat_of_zero_le x0
    obtain ⟨b, rfl⟩ := Int.eq_ofNat_of_zero_le y0
    have hs : 0 < [(a : Int), (b : Int)].sum := g4
    simp only [List.sum_cons, List.sum_nil] at hs
    unfold hpsB inR at h
    simp only [Bool.and_eq_true, decide_eq_true_eq, List.all_eq_true, List.mem_map] at h
    have ha := h.2.1 _ ⟨(a : Int), by simp, rfl⟩
    have hb := h.2.1 _ ⟨(b : Int), by simp, rfl⟩
    simp only [id, Bool.and_eq_true, decide_eq_true_eq] at ha hb
    exact ⟨a, b, rfl, by omega, by omega, by omega⟩
theorem twD_eq {d : PyData} (h : twD d = true) : ∃ a b : Nat, d = dN a b ∧ 0 < a + b ∧ a ≤ 10 ^ 30 ∧ b ≤ 10 ^ 30 := by
  unfold twD at h
  split at h
  · rename_i ds
    rw [Bool.and_eq_true] at h
    obtain ⟨ns, e, hb⟩ := hpsD_eq h.1
    have hl := of_decide_eq_true h.2
    have : ds = ns.map PyData.int := PyData.tuple.inj e
    rw [this, List.length_map] at hl
    obtain ⟨a, b, rfl, k⟩ := two_of hb hl
    exact ⟨a, b, e, k⟩
  · cases h
theorem dN_inj {a b c d : Nat} (h : dN a b = dN c d) : a = c ∧ b = d := by
  have := PyData.tuple.inj h
  simp only [List.map_cons, List.map_nil, List.cons.injEq, PyData.int.injEq, and_true] at this
  omega
theorem gAll_two (a b : Nat) : gAll [(a : Int), (b : Int)] = Nat.gcd a b := by
  show Nat.gcd (Nat.gcd 0 a) b = _
  rw [Nat.gcd_zero_left]
theorem par_odd {a b o tw : Nat} (p : Par a b o tw) : OddOf [(a : Int), (b : Int)] o tw := by
  refine ⟨?_, p.odd⟩
  rw [gAll_two]
  have := p.sum
  simp only [List.sum_cons, List.sum_nil]
  rw [← Int.natCast_mul, ← this]
  omega
/-- behind how many steps the walk ends -/
def endv (o tw : Nat) : V := if o = 1 then .int (tw : Int) else .non
/-- two heaps are handed in -/
structure TwoOk (K : PySem.W.Frag) (H : Hp) (t : Addr) (a b o tw : Nat) : Prop where
  at_ : SqT K H t (two a b)
  par : Par a b o tw
  ha : a ≤ 10 ^ 30
  hb : b ≤ 10 ^ 30
theorem TwoOk.same {K : PySem.W.Frag} {H H' : Hp} {t : Addr} {a b o tw : Nat} (x : TwoOk K H t a b o tw) (e : Same H H') : TwoOk K H' t a b o tw := ⟨Same.tup e x.at_, x.par, x.ha, x.hb⟩
/-- what is not two heaps is raised -/
def BadT (K : PySem.W.Frag) (C : Addr) (H : Hp) (E : XK) (v : V) (d : PyData) : Prop := Dp K H v d ∧ (twD d = false → ∀ H', Same H H' → E (.ref C) none H')
def spChk2X (K : PySem.W.Frag) (C : Addr) : Sp := fun vs H Q E => ∃ (v : V) (d : PyData), vs = [v] ∧ BadT K C H E v d ∧ (twD d = true → ∀ H', Same H H' → Q .non H')
def spEndsX (K : PySem.W.Frag) (C : Addr) : Sp := fun vs H Q E => ∃ (v : V) (d : PyData), vs = [v] ∧ BadT K C H E v d ∧ ∀ a b o tw, d = dN a b → twD d = true → Par a b o tw → ∀ H', Same H H' → Q (endv o tw) H'
def spEnds (K : PySem.W.Frag) : Sp := fun vs H Q _ => ∃ (t : Addr) (a b o tw : Nat), vs = [.ref t] ∧ SqT K H t (two a b) ∧ Par a b o tw ∧ a ≤ 10 ^ 30 ∧ b ≤ 10 ^ 30 ∧ ∀ H', Same H H' → Q (endv o tw) H'
theorem ends_good {K : PySem.W.Frag} {C : Addr} {vs : List V} {H : Hp} {Q : VK} {E : XK} (h : spEnds K vs H Q E) : spEndsX K C vs H Q E0 := by
  obtain ⟨t, a, b, o, tw, rfl, hS, hp, ha, hb, k⟩ := h
  refine ⟨_, dN a b, rfl, ⟨dp_I (ns := [(a : Int), (b : Int)]) hS, fun z => ?_⟩, fun a' b' o' tw' e _ hp' => ?_⟩
  · rw [twD_dI (two_good hp.pos ha hb)] at z
    cases z
  · obtain ⟨rfl, rfl⟩ := dN_inj e
    obtain ⟨rfl, rfl⟩ := hp.one hp'
    exact k
def spAfterX (K : PySem.W.Frag) (C M : Addr) : Sp := fun vs H Q E => ∃ (v u : V) (d e : PyData), vs = [v, u] ∧ BadT K C H E v d ∧ Dp K H u e ∧ ∀ a b, d = dN a b → twD d = true → (isIntD 0 (10 ^ 30) e = false → ∀ H', Same H H' → E (.ref M) none H') ∧
  ∀ k o tw : Nat, e = .int (k : Int) → k ≤ 10 ^ 30 → Par a b o tw → ∀ (p : Addr) (H' : Hp), Same H H' → SqT K H' p (two (wpos a b o tw k).1 (wpos a b o tw k).2) → Q (.ref p) H'
def spTailX (K : PySem.W.Frag) (C G : Addr) : Sp := fun vs H Q E => ∃ (v : V) (d : PyData), vs = [v] ∧ BadT K C H E v d ∧ ∀ a b, d = dN a b → twD d = true → (10 ^ 6 < a + b → ∀ H', Same H H' → E (.ref G) none H') ∧
  (a + b ≤ 10 ^ 6 → ∀ o tw r, Par a b o tw → (o = 1 → r = 0) → (o ≠ 1 → Ord o r) → ∀ (p : Addr) (H' : Hp), Same H H' → H p = none → H' p = some (.tup (two tw r)) → Q (.ref p) H')
section
variable {P : Program} {w : World} {K : PySem.W.Frag} {mg : Str → Option Value} {base : Heap}
abbrev s_power_of_two : Stmt := top 34
theorem sc_power_of_two : FnScope ["exponent", "modulus", "power", "square", "left"] ["exponent", "modulus"] (defScope s_power_of_two) := ⟨rfl, rfl, rfl, by decide +kernel, rfl, by decide +kernel, by decide +kernel⟩
theorem ok_power_of_two {f : Addr} {fd : FuncData} (F : Fun K "power_of_two" "power_of_two" s_power_of_two f fd) : FnOk P w K mg base CX0 1 f fd ["exponent", "modulus"] spPow := by
  refine F.ok sc_power_of_two (fun vs H Q E h => ?_) (fun cdv A outer s H vs Q E hr h => ?_)
  · obtain ⟨e, m, rfl, _⟩ := h
    rfl
  · obtain ⟨e, m, rfl, hm, hm2, k⟩ := h
    refine ⟨_, (pss_cons (ps_set (i := 2) sc_power_of_two.nd rfl (Or.inl rfl) (pe_op op_mod pe_int (pv 1)))
      (pss_cons (ps_set (i := 3) sc_power_of_two.nd rfl (Or.inl rfl) (pe_op op_mod pe_int (pv 1)))
      (pss_cons (ps_set (i := 4) sc_power_of_two.nd rfl (Or.inl rfl) (pv 0))
      (pss_cons (ps_while PassesOwn.never (pt_cmpR op_gt (pv 4) pe_int (nomark _)) (pss_cons (ps_if (pt_cmpR op_eq (pe_op op_mod (pv 4) pe_int) pe_int (nomark _)) (pss_one (ps_set (i := 2) sc_power_of_two.nd rfl (Or.inl rfl) (pe_op op_mod (pe_op op_mulW (pv 2) (pv 3)) (pv 1)))) pss_nil)
      (pss_cons (ps_set (i := 3) sc_power_of_two.nd rfl (Or.inl rfl) (pe_op op_mod (pe_op op_mulW (pv 3) (pv 3)) (pv 1)))
      (pss_one (ps_aug (i := 4) sc_power_of_two.nd rfl (Or.inl rfl) pe_int iop_fdiv)))))
      (pss_one (ps_ret (pv 2))))))), ?_⟩
    have cst : ∀ c : Nat, ((c : Int) % (m : Int)) = ((c % m : Nat) : Int) := fun c => by omega
    refine ⟨_, rfl, _, _, rfl, rfl, (by show (0 : Int) < (m : Int); omega), _, rfl, _, _, rfl, rfl, (by show (0 : Int) < (m : Int); omega), _, rfl, ?_⟩
    have wd : ∀ x y : Nat, x < m → y < m → CMulW (x : Int) (y : Int) := fun x y hx hy => wide_mul (a := 200) (b := 200) (by omega) (by omega) (by decide) (by decide) (by decide)
    refine ⟨fun mm σ H1 => ∃ p q l : Nat, σ = [some (.int (e : Int)), some (.int (m : Int)), some (.int (p : Int)), some (.int (q : Int)), some (.int (l : Int))] ∧ H1 = H ∧ (p * q ^ l) % m = 2 ^ e % m ∧ p < m ∧ q < m ∧ l = mm,
      ⟨e, 1 % m, 2 % m, e, ?_, rfl, ?_, Nat.mod_lt _ hm, Nat.mod_lt _ hm, rfl⟩, ?_⟩
    · rw [← cst 1, ← cst 2]
      rfl
    · rw [Nat.mul_mod, Nat.mod_mod, ← Nat.mul_mod, Nat.one_mul, ← Nat.pow_mod]
    rintro mm σ H1 ⟨p, q, l, rfl, rfl, hpq, hp, hq, rfl⟩
    refine ⟨_, rfl, _, _, rfl, rfl, _, rfl, ?_⟩
    refine ite2 (fun hz => ?_) (fun hz => ?_)
    · have hz' : 0 < l := by have := of_decide_eq_true hz; omega
      refine ⟨fun σ' H' => ∃ p q l' : Nat, σ' = [some (.int (e : Int)), some (.int (m : Int)), some (.int (p : Int)), some (.int (q : Int)), some (.int (l' : Int))] ∧ H' = H1 ∧ (p * q ^ l') % m = 2 ^ e % m ∧ p < m ∧ q < m ∧ l' < l,
        fun σ' H' ⟨p', q', l', e1, e2, e3, e4, e5, e6⟩ => ⟨l', e6, p', q', l', e1, e2, e3, e4, e5, rfl⟩, ?_⟩
      have back : ∀ (p' : Nat), p' < m → (p' * (q * q) ^ (l / 2)) % m = 2 ^ e % m → ∀ v2 : Int, v2 = (p' : Int) →
          (([some (V.int (e : Int)), some (V.int (m : Int)), some (V.int v2), some (V.int ((q : Int) * (q : Int) % (m : Int))), some (V.int ((l : Int) / 2))] : L2.St) = [some (V.int (e : Int)), some (V.int (m : Int)), some (V.int (p' : Int)), some (V.int ((q * q % m : Nat) : Int)), some (V.int ((l / 2 : Nat) : Int))]) ∧
          (p' * (q * q % m) ^ (l / 2)) % m = 2 ^ e % m := fun p' h1 h2 v2 hv => by
        refine ⟨?_, ?_⟩
        · rw [hv, show ((q : Int) * (q : Int) % (m : Int)) = ((q * q % m : Nat) : Int) by rw [← cst, Int.natCast_mul], show ((l : Int) / 2) = ((l / 2 : Nat) : Int) by omega]
        · rw [Nat.mul_mod, ← Nat.pow_mod, ← Nat.mul_mod]
          exact h2
      have sq : ∀ n : Nat, (q * q) ^ n = q ^ (2 * n) := fun n => by
        rw [Nat.pow_mul, Nat.pow_two]
      refine ⟨_, rfl, _, _, rfl, rfl, (by show (0 : Int) < 2; decide), rfl, _, rfl, ?_⟩
      rw [dec_int]
      refine ite2 (fun ho => ?_) (fun ho => ?_)
      · have ho' : l % 2 = 1 := by have := of_decide_eq_true ho; omega
        refine ⟨_, rfl, _, rfl, _, _, rfl, rfl, wd p q hp hq, _, rfl, _, _, rfl, rfl, (by show (0 : Int) < (m : Int); omega), ?_⟩
        refine ⟨_, rfl, _, rfl, _, _, rfl, rfl, wd q q hq hq, _, rfl, _, _, rfl, rfl, (by show (0 : Int) < (m : Int); omega), ?_⟩
        refine ⟨_, rfl, _, _, rfl, rfl, ⟨by decide, by decide⟩, ?_⟩
        have hv : (p : Int) * (q : Int) % (m : Int) = ((p * q % m : Nat) : Int) := by rw [← cst, Int.natCast_mul]
        obtain ⟨b1, b2⟩ := back (p * q % m) (Nat.mod_lt _ hm) (by
          rw [Nat.mul_mod, Nat.mod_mod, ← Nat.mul_mod, sq, Nat.mul_assoc, Nat.mul_comm q, ← Nat.pow_succ, show (2 * (l / 2)).succ = l by omega]
          exact hpq) _ hv
        exact ⟨_, _, _, b1, rfl, b2, Nat.mod_lt _ hm, Nat.mod_lt _ hm, by omega⟩
      · have ho' : l % 2 = 0 := by
          have : ¬ ((l : Int) % 2 = 1) := fun z => ho (decide_eq_true z)
          omega
        refine ⟨_, rfl, _, rfl, _, _, rfl, rfl, wd q q hq hq, _, rfl, _, _, rfl, rfl, (by show (0 : Int) < (m : Int); omega), ?_⟩
        refine ⟨_, rfl, _, _, rfl, rfl, ⟨by decide, by decide⟩, ?_⟩
        obtain ⟨b1, b2⟩ := back p hp (by rw [sq, show 2 * (l / 2) = l by omega]; exact hpq) _ rfl
        exact ⟨_, _, _, b1, rfl, b2, hp, Nat.mod_lt _ hm, by omega⟩
    · have hz' : l = 0 := by
        have : ¬ ((0 : Int) < (l : Int)) := fun z => hz (decide_eq_true z)
        omega
      subst hz'
      rw [Nat.pow_zero, Nat.mul_one, Nat.mod_eq_of_lt hp] at hpq
      subst hpq
      exact ⟨_, rfl, k⟩
abbrev s_check_two : Stmt := top 36
theorem sc_check_two : FnScope ["heaps"] ["heaps"] (defScope s_check_two) := ⟨rfl, rfl, rfl, by decide +kernel, rfl, by decide +kernel, by decide +kernel⟩
theorem ok_check_two {f C : Addr} {fd : FuncData} (F : Fun K "check_two" "check_two" s_check_two f fd) (T : Tp mg) (B : NilX P K mg "BadHeaps" C) (C_check_heaps : Cal P w K mg base (L2N.CX P w) 3 "check_heaps" ["heaps"] (spChkHeapsD K C)) : FnOk P w K mg base (L2N.CX P w) 4 f fd ["heaps"] (spChk2X K C) := by
  refine okN F sc_check_two (fun vs H Q E h => ?_) (fun cdv A outer s H vs Q E hr h => ?_)
  · obtain ⟨v, d, rfl, _⟩ := h
    rfl
  · obtain ⟨v, d, rfl, hbad, k⟩ := h
    refine ⟨_, (pss_cons (ps_expr (pe_cal C_check_heaps hr rfl (L2N.passes_call (L2N.takes_of rfl rfl rfl rfl) (fun _ _ _ _ h => h)) (pa_cons (pv 0) pa_nil)))
      (pss_one (ps_if (pt_cmpR op_ne (pe_callB call_len_seq (by rfl) T.len PySem.boot_len (pa_cons (pv 0) pa_nil)) pe_int (nomark _)) (pss_one (L2N.ps_raise rfl (L2N.takes_of rfl rfl rfl rfl) (pmkN_nil B (hr.mono (by decide : 1 ≤ 3)) rfl))) pss_nil))), ?_⟩
    refine ⟨_, rfl, v, d, rfl, hbad.1, fun hz H1 s1 => ?_, fun hz => hbad.2 (twD_hps hz)⟩
    obtain ⟨ns, rfl, hg⟩ := hpsD_eq hz
    obtain ⟨t, rfl, hS⟩ := dp_dI hbad.1
    refine ⟨_, rfl, t, _, rfl, .inr (Same.tup s1 hS), rfl, _, rfl, ?_⟩
    rw [dec_int]
    have e := twD_dI hg
    by_cases h2 : ns.length = 2
    · rw [decide_eq_true (show (((ns.map V.int).length : Nat) : Int) = 2 by rw [List.length_map]; omega)]
      exact iteF (k (by rw [e, decide_eq_true h2]) _ s1)
    · rw [decide_eq_false (show ¬ (((ns.map V.int).length : Nat) : Int) = 2 by rw [List.length_map]; omega)]
      exact iteT (hbad.2 (by rw [e, decide_eq_false h2]) _ s1)
abbrev s_ends_after : Stmt := top 38
theorem sc_ends_after : FnScope ["heaps", "odd", "twos"] ["heaps"] (defScope s_ends_after) := ⟨rfl, rfl, rfl, by decide +kernel, rfl, by decide +kernel, by decide +kernel⟩
theorem ok_ends_after {f C : Addr} {fd : FuncData} (F : Fun K "ends_after" "ends_after" s_ends_after f fd) (C_check_two : Cal P w K mg base (L2N.CX P w) 4 "check_two" ["heaps"] (spChk2X K C)) (C_reduced_parts : Cal P w K mg base CX0 2 "reduced_parts" ["numbers"] (spRed K)) : FnOk P w K mg base (L2N.CX P w) 5 f fd ["heaps"] (spEndsX K C) := by
  refine okN F sc_ends_after (fun vs H Q E h => ?_) (fun cdv A outer s H vs Q E hr h => ?_)
  · obtain ⟨v, d, rfl, _⟩ := h
    rfl
  · obtain ⟨v, d, rfl, hbad, kk⟩ := h
    refine ⟨_, (pss_cons (ps_expr (pe_cal C_check_two hr rfl (L2N.passes_call (L2N.takes_of rfl rfl rfl rfl) (fun _ _ _ _ h => h)) (pa_cons (pv 0) pa_nil)))
      (pss_cons (ps_asg (pe_cal C_reduced_parts hr rfl pass0 (pa_cons (pv 0) pa_nil)) (pg_tup rfl (pgs_cons (pg_name (i := 1) sc_ends_after.nd rfl (Or.inl rfl)) (pgs_cons (pg_name (i := 2) sc_ends_after.nd rfl (Or.inl rfl)) pgs_nil))))
      (pss_one (ps_ret (pe_ifExp (pt_cmpR op_eq (pv 1) pe_int (nomark _)) (pv 2) pe_non))))), ?_⟩
    refine ⟨_, rfl, v, d, rfl, hbad, fun htw H1 s1 => ?_⟩
    obtain ⟨a, b, rfl, hpos, ha, hb⟩ := twD_eq htw
    obtain ⟨t, rfl, hS⟩ := dp_dI hbad.1
    obtain ⟨o, tw, hp⟩ := par_some hpos
    have k := kk a b o tw rfl htw hp
    refine ⟨_, rfl, t, [(a : Int), (b : Int)], o, tw, rfl, Same.tup s1 hS, two_good hpos ha hb, par_odd hp, fun p H2 s2 hp0 hp2 => ?_⟩
    refine ⟨p, _, rfl, SqT.of hp2, rfl, _, _, rfl, _, _, rfl, rfl, ?_⟩
    refine ⟨_, rfl, rfl, _, rfl, ?_⟩
    unfold endv at k
    refine ite2 (fun hc => ?_) (fun hc => ?_)
    · have h : o = 1 := by have := V.int.inj (of_decide_eq_true hc); omega
      rw [if_pos h] at k
      exact ⟨_, rfl, k H2 (s1.trans s2)⟩
    · have h : o ≠ 1 := fun z => hc (decide_eq_true (by rw [z]; rfl))
      rw [if_neg h] at k
      exact k H2 (s1.trans s2)
abbrev s_after : Stmt := top 37
theorem sc_after : FnScope ["heaps", "many", "total", "end", "factor", "heap"] ["heaps", "many"] (defScope s_after) := ⟨rfl, rfl, rfl, by decide +kernel, rfl, by decide +kernel, by decide +kernel⟩
theorem ok_after {f C M : Addr} {fd : FuncData} (F : Fun K "after" "after" s_after f fd) (T : Tp mg) (BM : NilX P K mg "BadMany" M) (C_check_two : Cal P w K mg base (L2N.CX P w) 4 "check_two" ["heaps"] (spChk2X K C)) (C_is_integer : Cal P w K mg base CX0 1 "is_integer" ["value", "least", "greatest"] (spIsInt K))
    (C_ends_after : Cal P w K mg base CX0 5 "ends_after" ["heaps"] (spEnds K)) (C_power_of_two : Cal P w K mg base CX0 1 "power_of_two" ["exponent", "modulus"] spPow) : FnOk P w K mg base (L2N.CX P w) 6 f fd ["heaps", "many"] (spAfterX K C M) := by
  refine okN F sc_after (fun vs H Q E h => ?_) (fun cdv A outer s H vs Q E hr h => ?_)
  · obtain ⟨v, u, d, e, rfl, _⟩ := h
    rfl
  · obtain ⟨v, u, d, e, rfl, hbad, hu, kk⟩ := h
    refine ⟨_, (pss_cons (ps_expr (pe_cal C_check_two hr rfl (L2N.passes_call (L2N.takes_of rfl rfl rfl rfl) (fun _ _ _ _ h => h)) (pa_cons (pv 0) pa_nil)))
      (pss_cons (ps_if (pt_not (pt_val (pe_cal C_is_integer hr rfl pass0 (pa_cons (pv 1) (pa_cons pe_int (pa_cons (pe_gint rfl T.c_GREATEST) pa_nil)))))) (pss_one (L2N.ps_raise rfl (L2N.takes_of rfl rfl rfl rfl) (pmkN_nil BM (hr.mono (by decide : 1 ≤ 5)) rfl))) pss_nil)
      (pss_cons (ps_if (pt_cmpR op_in_seq pe_int (pv 0) (by rfl)) (pss_one (ps_ret (pv 0))) pss_nil)
      (pss_cons (ps_set (i := 2) sc_after.nd rfl (Or.inr rfl) (pe_callB (cr_sumT rfl) (by rfl) T.sum (by decide +kernel) (pa_cons (pv 0) pa_nil)))
      (pss_cons (ps_set (i := 3) sc_after.nd rfl (Or.inl rfl) (pe_cal C_ends_after hr rfl pass0 (pa_cons (pv 0) pa_nil)))
      (pss_cutM (ps_if (PW.pt (pw_and (pt_cmpR op_notN (pv 3) pe_non (nomark _)) (pw_and1 (pt_cmpR op_ge (pv 1) (pv 3) (nomark _))))) (pss_one (ps_ret (pe_tup (pa_cons pe_int (pa_cons (pv 2) pa_nil))))) pss_nil)
      (pss_cons (ps_set (i := 4) sc_after.nd rfl (Or.inr rfl) (pe_cal C_power_of_two hr rfl pass0 (pa_cons (pv 1) (pa_cons (pv 2) pa_nil))))
      (pss_one (ps_ret (pe_callTy call_tuple_of (by rfl) T.tuple (by decide +kernel) (pa_cons (pe_lc (own := [("heap", 5)]) (g := gName 5) (by rfl) sc_after.nd (pi_tup (pv 0)) (blkOk_by (own := [("heap", 5)]) (N := ["heaps", "many", "total", "end", "factor", "heap"]) (sc := defScope s_after) (by decide +kernel)) (fun _ _ _ _ _ => pg_name (i := 5) sc_after.nd rfl (Or.inl rfl)) (fun _ _ _ _ _ => pts_nil) (fun _ _ _ _ _ => (pe_op op_mod (pe_op op_mulW (pv 5) (pv 4)) (pv 2)))) pa_nil))))))))))), ?_⟩
    refine ⟨_, rfl, v, d, rfl, hbad, fun htw H1 s1 => ?_⟩
    obtain ⟨a, b, rfl, hpos, ha, hb⟩ := twD_eq htw
    obtain ⟨k1, k2⟩ := kk a b rfl htw
    obtain ⟨t, rfl, hS⟩ := dp_dI hbad.1
    refine ⟨_, rfl, u, e, 0, 10 ^ 30, rfl, dp_same s1 hu, _, rfl, ?_⟩
    cases hi : isIntD 0 (10 ^ 30) e with
    | false => exact iteT (k1 hi _ s1)
    | true =>
    refine iteF ?_
    obtain ⟨n0, rfl, h0, hn0⟩ := isInt_eq hi
    obtain ⟨n, rfl⟩ := Int.eq_ofNat_of_zero_le h0
    have hn : n ≤ 10 ^ 30 := by omega
    cases hu
    obtain ⟨o, tw, hp⟩ := par_some hpos
    have k := k2 n o tw rfl hn hp
    have hT : TwoOk K H t a b o tw := ⟨hS, hp, ha, hb⟩
    have T1 := hT.same s1
    -- if 0 in heaps
    refine ⟨_, rfl, t, _, rfl, .inr T1.at_, rfl, rfl, _, rfl, ?_⟩
    have e0 : (if false = true then !inV (.int 0) (two a b) else inV (.int 0) (two a b)) = (decide (a = 0) || decide (b = 0)) := in_two
    rw [e0]
    by_cases hz : a = 0 ∨ b = 0
    · have ez : (decide (a = 0) || decide (b = 0)) = true := by simpa using hz
      rw [ez]
      obtain ⟨h1, h2⟩ := hT.par.empty hz
      refine iteT ⟨_, rfl, k t H1 s1 ?_⟩
      have ew : wpos a b o tw n = (a, b) := by
        unfold wpos
        rw [if_pos ⟨h1, by omega⟩, if_pos h2]
      rw [ew]
      exact T1.at_
    · have ez : (decide (a = 0) || decide (b = 0)) = false := by
        have h1 : ¬ a = 0 := fun q => hz (.inl q)
        have h2 : ¬ b = 0 := fun q => hz (.inr q)
        simp [h1, h2]
      rw [ez]
      refine iteF ?_
      have hsum : [(a : Int), (b : Int)].sum = ((a + b : Nat) : Int) := by
        simp only [List.sum_cons, List.sum_nil]
        omega
      refine ⟨_, rfl, t, [(a : Int), (b : Int)], rfl, T1.at_, ?_⟩
      rw [hsum]
      have wd : ∀ x : Nat, x ≤ 10 ^ 30 → CMulW (x : Int) ((2 ^ n % (a + b) : Nat) : Int) := fun x hx => by
        have l := Nat.mod_lt (2 ^ n) hpos
        refine wide_mul (a := 200) (b := 200) ?_ ?_ (by decide) (by decide) (by decide)
        · omega
        · omega
      have val : ∀ x : Nat, (x : Int) * ((2 ^ n % (a + b) : Nat) : Int) % ((a + b : Nat) : Int) = ((2 ^ n * x % (a + b) : Nat) : Int) := fun x => by
        rw [← Int.natCast_mul, ← Int.natCast_emod, Nat.mul_mod, Nat.mod_mod, ← Nat.mul_mod, Nat.mul_comm]
      refine ⟨_, rfl, t, a, b, o, tw, rfl, T1.at_, hp, ha, hb, fun H2 s2 => ?_⟩
      obtain ⟨ve, hve⟩ : ∃ ve, ve = endv o tw := ⟨_, rfl⟩
      rw [← hve]
      have T2 := T1.same s2
      have s12 := s1.trans s2
      refine ⟨fun σ H' => (∃ v3 v4 v5, σ = [some (.ref t), some (.int (n : Int)), some (.int ((a + b : Nat) : Int)), v3, v4, v5]) ∧ H' = H2 ∧ ¬ (o = 1 ∧ tw ≤ n), ?_, ?_⟩
      · unfold endv at hve
        by_cases ho : o = 1
        · rw [if_pos ho] at hve
          subst hve
          refine ⟨_, rfl, rfl, _, rfl, iteT ⟨_, rfl, _, rfl, _, _, rfl, rfl, _, rfl, ite2 (fun hc => ?_) (fun hc => ?_)⟩⟩
          · have hle : tw ≤ n := by have := of_decide_eq_true hc; omega
            have ht0 := hT.par.full ⟨fun q => hz (.inl q), fun q => hz (.inr q)⟩ ho
            refine ⟨_, rfl, by show 2 ≤ sizeLine; decide, fun p hp => k p _ (s12.trans (Same.new hp)) ?_⟩
            have ew : wpos a b o tw n = (0, a + b) := by
              unfold wpos
              rw [if_pos ⟨ho, hle⟩, if_neg ht0]
            rw [ew]
            exact SqT.of upd_same
          · exact ⟨⟨_, _, _, rfl⟩, rfl, fun q => hc (decide_eq_true (by omega))⟩
        · rw [if_neg ho] at hve
          subst hve
          exact ⟨_, rfl, rfl, _, rfl, iteF ⟨⟨_, _, _, rfl⟩, rfl, fun q => ho q.1⟩⟩
      · rintro σ H' ⟨⟨v3, v4, v5, rfl⟩, rfl, hlv⟩
        have T2 := hT.same s12
        refine ⟨_, rfl, _, rfl, n, a + b, rfl, hpos, (by omega), _, rfl, t, rfl, ⟨_, T2.at_⟩, fun D hD => ?_⟩
        have ew : wpos a b o tw n = ((2 ^ n * a) % (a + b), (2 ^ n * b) % (a + b)) := if_neg hlv
        refine lc_tup (K := K) (a := t) (xs := two a b) (fun i H3 => H3 D = some (.lst ((two ((2 ^ n * a) % (a + b)) ((2 ^ n * b) % (a + b))).take i)) ∧ Same H' H3) ⟨upd_same, Same.new hD⟩ (fun i H3 _ q => Same.tup q.2 T2.at_) ?_ ?_
        · rintro i x H3 hi ⟨hL, s3⟩
          have hx : ∃ y : Nat, x = .int (y : Int) ∧ y ≤ 10 ^ 30 ∧ i < 2 ∧ (two ((2 ^ n * a) % (a + b)) ((2 ^ n * b) % (a + b))).take (i + 1) = (two ((2 ^ n * a) % (a + b)) ((2 ^ n * b) % (a + b))).take i ++ [.int ((2 ^ n * y % (a + b) : Nat) : Int)] := by
            match i, hi with
            | 0, hi => exact ⟨a, (Option.some.inj hi).symm, ha, by decide, rfl⟩
            | 1, hi => exact ⟨b, (Option.some.inj hi).symm, hb, by decide, rfl⟩
            | j + 2, hi => exact nomatch hi
          obtain ⟨y, rfl, hy, hi2, et⟩ := hx
          refine ⟨rfl, _, rfl, _, rfl, _, _, rfl, rfl, wd y hy, _, rfl, _, _, rfl, rfl, (by show (0 : Int) < ((a + b : Nat) : Int); omega), _, hL, ?_, ?_, same_upd s3 hD⟩
          · rw [List.length_take, sizeLine_eq]
            omega
          · rw [upd_same, et, ← val y]
        · rintro H3 ⟨hL, s3⟩
          refine ⟨D, _, rfl, .inl ⟨SqL.of hL, fun p hp => k p _ ((s12.trans s3).trans (Same.new hp)) ?_⟩⟩
          rw [ew]
          exact SqT.of upd_same
end
end Hd
set_option maxHeartbeats 4000000
/-! [.. for .. in range(..) ..] while an error is handled; a def that is handed the error that is handled. -/
namespace Hd
open PySem PySem.Spec PyProof.Rows L2
section
variable {X : Cx}
/-- a block's state, the handled error among its pins, as a context's own -/
theorem blk_hot {Y : Cx} {p : Addr × Obj} {σ : L2.St} {H : Hp} {s : Shared} (e : Y.pn = []) (J : Inv Y [p] σ H s) : Inv (Y.tr [p] (fun _ _ => False)) [] σ H s := by
  have J2 := J.toTry (fun _ _ => False)
  rw [e] at J2
  exact J2
theorem hot_blk {Y : Cx} {p : Addr × Obj} {pl : List (Addr × Obj)} {σ : L2.St} {H : Hp} {s : Shared} (e : Y.pn = []) (ok : Y.Ok) (J : Inv (Y.tr [p] (fun _ _ => False)) pl σ H s) : Inv Y [p] σ H s := by
  have J2 : Inv (Y.tr (Y.pn ++ [p]) (fun _ _ => False)) pl σ H s := by rw [e]; exact J
  exact J2.ofTry ok
theorem pe_lcH {elt tg iter : Expr} {ifs : List Expr} {scope : Scope} {own : List (Str × Nat)} {pos : Pos} {wi : TI} {g : TG} {tt : TT} {te : TE} (hc : L2H.HotC X) (hN : X.N.Nodup) (hi : L2H.PIH X tg iter wi) (ok : BlkOk X.N X.env.scope scope own)
    (hg : ∀ (s : Shared) (H : Hp) (C : Addr) (cl : List (Str × Addr)) (fp : List Addr), PG (X.blk s H scope (compEnvC scope cl C X.env) fp) tg g)
    (ht : ∀ (s : Shared) (H : Hp) (C : Addr) (cl : List (Str × Addr)) (fp : List Addr), PTs (X.blk s H scope (compEnvC scope cl C X.env) fp) ifs tt)
    (he : ∀ (s : Shared) (H : Hp) (C : Addr) (cl : List (Str × Addr)) (fp : List Addr), PE (X.blk s H scope (compEnvC scope cl C X.env) fp) elt te) (hs : ∀ x, foldedSetIterable iter X.env x = pure x := by intro _; rfl) :
    PE X (.ListComp elt [⟨tg, iter, ifs, 0⟩] scope pos) (tLc wi g tt te (own.map (·.2))) := by
  obtain ⟨p, hot, hp⟩ := hc
  constructor
  intro pins s σ H Q I h
  rw [eval_ListComp]
  have frees : ∀ y ∈ scope.names, y.2 = .free → ∃ c, X.env.cells.lookup y.1 = some c := by
    intro y hy e
    exact I.ok.has _ (ok.free y hy e)
  refine wpAny_comprehension_free (use := _) rfl hs (closure_ok frees) ok.kind (fun y hy e => by rw [ok.uniq y hy, e]) (thn (hi.run pins s σ H _ I h) fun _ sa ha => thn ha fun _ sb hb => ?_)
  obtain ⟨it, fp, tn, J, Ha, rfl, Ia, T, sta, fpa, hq⟩ := hb
  refine wpAny_newObj_type (newEnv_comp ?_) (by show 0 ≤ sizeLine; decide)
  generalize hacc : sb.heap.objs.size = acc
  have accN : Ha acc = none := Ia.hok.fresh (Nat.le_of_eq hacc)
  obtain ⟨W, ⟨m1, w1⟩, onward⟩ := hq acc accN
  generalize hsc : ({ sb with heap := sb.heap.push { cls := .type "list", data := .seq ([] : List Value).toArray } } : Shared) = sc
  have hsc' : sc.heap = sb.heap.push { cls := .type "list", data := .seq ([] : List Value).toArray } := by rw [← hsc]
  have Ic : Inv X pins σ (upd Ha acc (.lst [])) sc := by
    subst hsc
    refine Ia.laid (t' := sb.toks) (fun b o q => Heap.get?_push_of_some _ q) (Nat.le_of_eq hacc) ⟨Nat.zero_le _, [], 0, .nil, ?_⟩
    subst hacc
    exact Heap.get?_push_size _ rfl
  have below : ∀ b ∈ fp, b < sb.heap.objs.size := by
    intro b hb
    obtain ⟨o, q, _⟩ := T.obj _ _ sta b hb
    exact Heap.lt_size q
  have fpc : ∀ b ∈ fp, FpOk X pins (upd Ha acc (.lst [])) b ∧ b < sc.heap.objs.size := by
    intro b hb
    have lt := below b hb
    have ne : b ≠ acc := Nat.ne_of_lt (by rw [← hacc]; exact lt)
    refine ⟨⟨?_, (fpa b hb).2⟩, ?_⟩
    · rw [upd_ne ne]
      exact (fpa b hb).1
    · rw [hsc', Heap.size_push]
      exact Nat.lt_succ_of_lt lt
  have stc : tn 0 sc.heap := T.keep _ _ _ sta fun b _ o q => by
    rw [hsc']
    exact Heap.get?_push_of_some _ q
  have Id := block_start Ic ok hN fpc
  have P1 := Ic.pin p (List.mem_append_left _ hp)
  have Pg := hg sc (upd Ha acc (.lst [])) sc.heap.objs.size (cellsFrom (sc.heap.objs.size + 1) scope.names (cloFrom X.env.cells scope.names [])) fp
  have Pt := ht sc (upd Ha acc (.lst [])) sc.heap.objs.size (cellsFrom (sc.heap.objs.size + 1) scope.names (cloFrom X.env.cells scope.names [])) fp
  have Pe := he sc (upd Ha acc (.lst [])) sc.heap.objs.size (cellsFrom (sc.heap.objs.size + 1) scope.names (cloFrom X.env.cells scope.names [])) fp
  refine (show codeAny _ _ (.compStart (.ListComp elt [⟨tg, iter, ifs, 0⟩] scope pos) 0 (.ref it) (.ref acc) (compEnvC scope (cellsFrom (sc.heap.objs.size + 1) scope.names (cloFrom X.env.cells scope.names [])) sc.heap.objs.size X.env)) (compPost (model X.prog X.w) X.A X.xe _ _ (.ref acc) sc.heap.objs.size) { sc with heap := pushCells (sc.heap.push { cls := .type "dict", data := .dict #[] }) scope.names } from ?_)
  have offc : ∀ b ∈ fp, (upd Ha acc (.lst [])) b = none := fun b hb => (fpc b hb).1.1
  generalize hbe : compEnvC scope (cellsFrom (sc.heap.objs.size + 1) scope.names (cloFrom X.env.cells scope.names [])) sc.heap.objs.size X.env = be at Id Pg Pt Pe ⊢
  have beL : be.locals = sc.heap.objs.size := by
    subst hbe
    rfl
  generalize hHc : upd Ha acc (.lst []) = Hc at Ic Id Pg Pt Pe w1 offc fpc P1
  generalize hsd : ({ sc with heap := pushCells (sc.heap.push { cls := .type "dict", data := .dict #[] }) scope.names } : Shared) = sd at Id ⊢
  have std : tn 0 sd.heap := T.keep _ _ _ stc fun b _ o q => by
    subst hsd
    exact pushCells_keeps _ _ _ _ (Heap.get?_push_of_some _ q)
  have upd4 : sd.heap.get? p.1 = some p.2 := by
    subst hsd
    exact pushCells_keeps _ _ _ _ (Heap.get?_push_of_some _ P1.1)
  -- the block's context, its pins: the handled error
  have Id1 : Inv (X.blk sc Hc scope be fp) [p] (wipe σ (own.map (·.2))) Hc sd := by
    refine Id.pins_of fun q hq => ?_
    have e : q = p := by simpa using hq
    subst e
    refine ⟨upd4, P1.2.1, ?_, ?_, P1.2.2.2.2⟩
    · show q.1 ≠ be.locals
      rw [beL]
      exact Nat.ne_of_lt (Heap.lt_size P1.1)
    · intro hm
      exact (List.mem_cons.mp (Ic.stkSub q.1 hm)).elim P1.2.2.1 P1.2.2.2.1
  have hotB : L2H.HotC ((X.blk sc Hc scope be fp).tr [p] (fun _ _ => False)) := ⟨p, hot, List.mem_cons_self⟩
  have pne : ∀ b ∈ fp, p.1 ≠ b := fun b hb => (fpc b hb).1.2.2.2.2.2 p (List.mem_append_left _ hp)
  have okB : (X.blk sc Hc scope be fp).Ok := Id.ok
  have stay : ∀ {H1 : Hp}, (∀ b ∈ fp, H1 b = none) → ∀ b ∈ fp, FpOk ((X.blk sc Hc scope be fp).tr [p] (fun _ _ => False)) [] H1 b := by
    intro H1 off b hb
    refine ⟨off b hb, (okB.exf b hb).1, okB.exfs b hb, .inl hb, fun x c q => (okB.exf b hb).2 x c q, fun q hq => ?_⟩
    have e : q = p := by simpa using hq
    subst e
    exact pne b hb
  have stayB : ∀ {H1 : Hp}, (∀ b ∈ fp, H1 b = none) → ∀ b ∈ fp, FpOk (X.blk sc Hc scope be fp) [p] H1 b := by
    intro H1 off b hb
    refine ⟨off b hb, (okB.exf b hb).1, okB.exfs b hb, .inl hb, fun x c q => (okB.exf b hb).2 x c q, fun q hq => ?_⟩
    have e : q = p := by simpa using hq
    subst e
    exact pne b hb
  refine (fun loop => codeAny_compStart_list loop (T.self X.A 0 _ _ _ std loop)) ?_
  refine compLoop_any (fun n s1 => ∃ i H1, Inv (X.blk sc Hc scope be fp) [p] (wipe σ (own.map (·.2))) H1 s1 ∧ tn i s1.heap ∧ (∀ b ∈ fp, H1 b = none) ∧ W i n H1) ?_ m1 ⟨0, Hc, Id1, std, offc, w1⟩
  rintro n s1 ⟨i, H1, I1, st1, off1, wi1⟩
  have I1h := blk_hot rfl I1
  rcases onward i n H1 wi1 with ⟨over, fin⟩ | ⟨more, Nx, hNx, turn⟩
  · refine thnF (T.done ((X.blk sc Hc scope be fp).tr [p] (fun _ _ => False)) rfl rfl rfl hotB i [] s1 _ H1 (fun _ _ => False) I1h (stay off1) st1 over) fun r s2 got => ?_
    obtain ⟨hr, I2⟩ := got
    subst hr
    have I3 : Inv X pins σ H1 s2 := by
      refine Ic.call' (ch := fp) I2.os I2.base I2.hok I2.bare fun b hb => ?_
      obtain ⟨⟨_, f1, _, f3, f4, f5⟩, _⟩ := fpc b hb
      exact ⟨f3, f1, f4, f5⟩
    have gone : H1 sc.heap.objs.size = none := by
      rw [← beL]
      exact I2.free
    obtain ⟨m, hm, _⟩ := I2.loc
    have hm2 : s2.heap.Ns sc.heap.objs.size m := by
      rw [← beL]
      exact hm
    refine ⟨m, hm2, fun h3 same => ?_⟩
    obtain ⟨g0, g1, _, g3, g4, g5⟩ := Ic.fpOk (Nat.le_refl _) gone
    exact ⟨.ref acc, H1, I3.turned (t' := s2.toks) (fun b o hb q => (same.2 b hb).trans q) g0 g1 g3 g4 g5, rfl, fin⟩
  · refine thnF (T.item ((X.blk sc Hc scope be fp).tr [p] (fun _ _ => False)) rfl rfl rfl hotB i [] s1 _ H1 (fun _ _ => False) I1h (stay off1) st1 more) fun r s2 got => ?_
    obtain ⟨u, hr, next⟩ := got
    subst hr
    refine thnF next fun _ s3 got => ?_
    obtain ⟨x, H3, I3h, rx, y3, st3, off3⟩ := got
    have I3 := hot_blk rfl okB I3h
    have I3p := I3.pinned (stayB off3) (T.obj _ _ st3)
    refine thnF (Pg.run _ s3 _ H3 x u _ I3p rx (turn x H3 y3)) fun _ s4 got => ?_
    obtain ⟨σ4, H4, I4, wp4, q4⟩ := got
    refine thnF (Pt.run _ s4 σ4 H4 _ I4 q4) fun b s5 got => ?_
    obtain ⟨H5, I5, q5⟩ := got
    have again : ∀ {s9 : Shared} {H9 : Hp}, Inv (X.blk sc Hc scope be fp) ([p] ++ pinsAt fp s3.heap) σ4 H9 s9 → Nx H9 → ∃ m, m < n ∧ ∃ i H', Inv (X.blk sc Hc scope be fp) [p] (wipe σ (own.map (·.2))) H' s9 ∧ tn i s9.heap ∧ (∀ b ∈ fp, H' b = none) ∧ W i m H' := by
      intro s9 H9 I9 nx
      obtain ⟨m', hm, w9⟩ := hNx H9 nx
      have at9 : ∀ b ∈ fp, ∀ o, s3.heap.get? b = some o → s9.heap.get? b = some o ∧ H9 b = none := by
        intro b hb o q
        have z := I9.pin (b, o) (List.mem_append_right _ (List.mem_append_right _ (mem_pinsAt hb q)))
        exact ⟨z.1, z.2.1⟩
      have lens : (wipe σ (own.map (·.2))).length = σ4.length := by
        rw [← wp4, wipe_length]
      have I9' := (I9.unpinned (pins := [p])).weak lens fun j v q => by
        rw [← wp4] at q
        exact (wipe_some q).1
      refine ⟨m', hm, i + 1, H9, I9', T.keep _ _ _ st3 fun b hb o q => (at9 b hb o q).1, ?_, w9⟩
      intro b hb
      obtain ⟨o, q, _⟩ := T.obj _ _ st3 b hb
      exact (at9 b hb o q).2
    cases b with
    | false =>
      simp only [Bool.false_eq_true, if_false] at q5 ⊢
      exact again I5 q5
    | true =>
      simp only [if_true] at q5 ⊢
      refine thnF (Pe.run _ s5 σ4 H5 _ I5 q5) fun z s6 got => ?_
      obtain ⟨yv, H6, I6, r6, xs, hD6, hz6, nx⟩ := got
      exact app_ok (X := X.blk sc Hc scope be fp) I6 hD6 hz6 r6 fun s7 I7 => again I7 nx
end
end Hd
set_option maxHeartbeats 4000000
/-! A def that is handed the error that is handled; isinstance of it. -/
namespace Hd
open PySem PySem.Spec PyProof.Rows L2
/-- what a def promises of the error that is handled: its class, its dict -/
structure FnE (P : Program) (w : World) (K : PySem.W.Frag) (mg : Str → Option Value) (base : Heap) (k : Nat) (f : Addr) (fd : FuncData) (ps : List Str) (cls : Value) (d : Option Addr) (sp : Sp) : Prop where
  len : ps.length = 1
  run : ∀ (A : Around) (outer : List Env) (s : Shared) (H : Hp) (args : Args) (Q : VK) (p : Addr × Obj), L2H.RoomH k A → L2H.Hot1 A p → L2H.PinOk outer H s p → Zc cls d p.2 → Env0 P w K mg base A outer s H → BindsTo s fd args (ps.zip [Value.ref p.1]) →
    sp [.ref p.1] H Q E0 → codeAny (model P w) A (.call (.ref f) args) (CR CX0 outer P w H s Q E0) s
theorem fnE {P : Program} {w : World} {K : PySem.W.Frag} {mg : Str → Option Value} {base : Heap} {x qual : Str} {st : Stmt} {f : Addr} {fd : FuncData} {N ps : List Str} {k : Nat} {cls : Value} {d : Option Addr} {sp : Sp} (F : L2.Fun K x qual st f fd) (S : FnScope N ps (defScope st)) (hps : ps.length = 1)
    (body : ∀ (cdv : Value) (A : Around) (outer : List Env) (s : Shared) (H : Hp) (Q : VK) (p : Addr × Obj), L2H.Hot1 A p → L2H.RoomH k (A.deeper (envOfC qual (defScope st) s.heap.objs.size f cdv)) → Zc cls d p.2 → (∃ vs, p.2.data = .fields vs) → sp [.ref p.1] H Q E0 →
      ∃ t, PSs (L2H.cxH CX0 P w K mg base N qual (defScope st) f cdv A outer s H E0 p) (defBody st) t ∧ t { nx := fun _ H' => Q .non H', rt := Q } (L2.start N [.ref p.1]) H) : FnE P w K mg base (k + 1) f fd ps cls d sp := by
  obtain ⟨oc, od, kV, doc, pm, an, cdv, ct, osl, rfl, look, code⟩ := F.ex
  refine ⟨hps, ?_⟩
  intro A outer s H args Q p room hot pin hz env bind h
  have X0 : K.In s.heap := env.mod.kin.keeps fun b o q => (env.bs b o q).1
  have lim : s.heap.NoLimit := env.mod.nolimit.keeps fun b o q => (env.bs b o q).1
  have kinds : ∀ y ∈ ps.zip [Value.ref p.1], (defScope st).names.lookup y.1 = some .local ∨ ((defScope st).names.lookup y.1 = some .cell ∧ ((cellsFrom (s.heap.objs.size + 1) (defScope st).names []).lookup y.1).isSome = true) := by
    rintro ⟨n, v⟩ hy
    rcases S.par n (List.of_mem_zip hy).1 with q | q
    · exact .inl q
    · exact .inr ⟨q, PySem.W.cellsFrom_some _ _ _ (.inl q)⟩
  refine codeAny_call_function room.depth (X0 _ _ look) rfl S.co S.gen rfl (PySem.W.codeRec_of X0 code) (bind _ _ _ _ ?_)
  refine wpAny_newFunctionEnv_cells S.kind kinds ?_
  intro env1 he s1 into
  subst he
  refine ⟨lim.keeps into.toInCall.keep, codeAny_func ?_⟩
  have fields : ∃ vs, p.2.data = .fields vs := by
    obtain ⟨_, vs, q, _⟩ := hot
    exact ⟨vs, q⟩
  obtain ⟨t, ht, hq⟩ := body cdv A outer s H Q p hot (room.deeper _) hz fields h
  have rel : Vals [V.ref p.1] [Value.ref p.1] := .cons rfl .nil
  have I := L2H.inv_startH (CX := CX0) (E := E0) S pin env (by rw [hps]; rfl) rel into
  refine wpAny_mono (ht.run [] s1 _ H _ I hq) (fun fl s2 out => ?_) fun e s2 out => out
  cases fl with
  | ret u =>
    obtain ⟨v, σ2, H2, J, rv, q⟩ := out
    exact ⟨v, H2, J.os, J.bare, J.base, J.hok, rv, q⟩
  | next =>
    obtain ⟨σ2, H2, J, q⟩ := out
    exact ⟨.non, H2, J.os, J.bare, J.base, J.hok, rfl, q⟩
  | brk =>
    obtain ⟨_, _, _, q⟩ := out
    exact q.elim
  | cont =>
    obtain ⟨_, _, _, q⟩ := out
    exact q.elim
/-- f(e), e the error that is handled -/
def tCalE (a : Addr) (sp : Sp) (t : TA) : TE := fun σ H Q => t σ H fun vs H1 => vs = [.ref a] ∧ sp [.ref a] H1 Q E0
theorem pe_calE {X : Cx} {k : Nat} {f : Addr} {fd : FuncData} {ps : List Str} {cls : Value} {d : Option Addr} {sp : Sp} {x : Str} {q pos : Pos} {e : Expr} {es : List Expr} {t : TA} {p : Addr × Obj} (F : FnE X.prog X.w X.K X.mg X.base k f fd ps cls d sp) (hr : L2H.RoomH k X.A) (hot : L2H.Hot1 X.A p) (hp : p ∈ X.pn) (hz : Zc cls d p.2)
    (hg : Gl X x) (hm : X.mg x = some (.ref f)) (hk : PySem.W.keepIn X.K (.ref f) = true) (hb : Binds X.K fd ps []) (ha : PA X (e :: es) t) (hdb : (x == ("__debug__" : Str)) = false := by decide)
    (he : starEach (e :: es) X.env = (false, eval e X.env) :: starEach es X.env := by rfl) (hpl : (backTo pos (starEach es X.env)).any (·.1) = false := by rfl) : PE X (.Call (.Name x q) (e :: es) [] pos) (tCalE p.1 sp t) := by
  constructor
  intro pins s σ H Q I h
  refine wpAny_Call_Name_kw (ld_glob I hg hm ?_ hdb)
  have I0 := I.ok.mod.kin
  refine PySem.W.callWith_K (h₀ := X.base) I0 hk ?_ he hpl
  refine thn (ha.run pos pins s σ H _ I h) fun us s1 got => ?_
  obtain ⟨vs, H1, I1, r, rfl, now⟩ := got
  refine ⟨I1.kIn, ?_⟩
  have eus := Vals.ref1 r
  subst eus
  have P1 := I1.pin p (List.mem_append_left _ hp)
  have pin : L2H.PinOk X.stack H1 s1 p := by
    refine ⟨P1.1, P1.2.1, ?_, P1.2.2.2.2⟩
    intro hm2
    exact (List.mem_cons.mp (I1.stkSub p.1 hm2)).elim P1.2.2.1 P1.2.2.2.1
  have bind := hb s1 [Value.ref p.1] I1.kIn (by rw [List.append_nil, F.len]; rfl)
  rw [List.append_nil] at bind
  refine wpAny_call (codeAny_mono (F.run X.A X.stack s1 H1 ⟨[Value.ref p.1], []⟩ Q p hr hot pin hz I1.env0 bind now) fun r2 s2 out => ?_)
  cases r2 with
  | error er => exact False.elim out
  | ok fl =>
    cases fl with
    | ret u => exact I1.after out
    | next => exact False.elim out
    | brk => exact False.elim out
    | cont => exact False.elim out
/-- isinstance(e, c): e an error among the pins, with a dict or without -/
def rIsP (K : PySem.W.Frag) (D : Addr) (d : Option Addr) (a : Addr) : List V → Hp → VK → Prop := fun xs H Q => ∃ (c : V) (cv : Value) (b : Bool), xs = [.ref a, c] ∧ (d = none ∨ ∃ dd fs, d = some dd ∧ H dd = some (.xd fs)) ∧ (∀ u, RelV c u → u = cv) ∧ PySem.W.kitOne K (.ref D) cv = some b ∧ Q (.bl b) H
theorem call_isP {X : Cx} {D : Addr} {d : Option Addr} {p : Addr × Obj} (hp : p ∈ X.pn) (C : ExcC X.K D) (hz : Zc (.ref D) d p.2) (hf : ∃ vs, p.2.data = .fields vs) : CallR X (.builtin "isinstance") (rIsP X.K D d p.1) := by
  intro pins s σ H xs us Q I r h
  obtain ⟨c, cv, b, rfl, hd, hcv, e, q⟩ := h
  cases r with
  | cons rx rr =>
    cases rr with
    | cons rt rr =>
      cases rr
      cases rx
      have ec := hcv _ rt
      subst ec
      obtain ⟨ha, _⟩ := I.pin p (List.mem_append_left _ hp)
      obtain ⟨vs, hv⟩ := hf
      have nc : PySem.W.notCls p.2 = true := by unfold PySem.W.notCls; rw [hv] <;> rfl
      rcases hd with rfl | ⟨dd, fs, rfl, hdd⟩
      · have J : PySem.W.InstAt s.heap p.1 p.2 D none := ⟨ha, hz.1, nc, by rw [hz.2]; trivial⟩
        exact PySem.W.kia_one (kit_err C) I.kIn J e (fun z => nomatch z) fun tk => ⟨.bl b, H, I.kept (t' := tk) fun _ _ z => z, rfl, q⟩
      · have ho : ObjOk X.prog X.w H s.heap dd (.xd fs) := I.hok dd _ hdd
        obtain ⟨mA, hns, hr⟩ := ho
        obtain ⟨od, ho, _⟩ := lookIn_ns hns
        have J : PySem.W.InstAt s.heap p.1 p.2 D (some od) := ⟨ha, hz.1, nc, by rw [hz.2]; exact ho⟩
        exact PySem.W.kia_one (kit_err C) I.kIn J e (fun z => nomatch z) fun tk => ⟨.bl b, H, I.kept (t' := tk) fun _ _ z => z, rfl, q⟩
end Hd
set_option maxHeartbeats 8000000
/-! The law of the errors: which class an error is of. -/
namespace Hd
open PySem PySem.Spec PyProof.Rows L2 _root_.TL
theorem ix_listK {X : Cx} {K : PySem.W.Frag} (hK : X.K = K) : IxR X (rIxL K) := hK ▸ ix_list
/-- the seven classes and the base of all -/
structure K7 (K : PySem.W.Frag) (mg : Str → Option Value) (A7 : Nat → Addr) (HE : Addr) : Prop where
  g0 : mg "BadHeaps" = some (.ref (A7 0))
  g1 : mg "BadStep" = some (.ref (A7 1))
  g2 : mg "BadPlan" = some (.ref (A7 2))
  g3 : mg "BadMany" = some (.ref (A7 3))
  g4 : mg "TooGreat" = some (.ref (A7 4))
  g5 : mg "Full" = some (.ref (A7 5))
  g6 : mg "InvalidText" = some (.ref (A7 6))
  gH : mg "HeapError" = some (.ref HE)
  ve : mg "ValueError" = none
  ec : ∀ i, i < 7 → ExcC K (A7 i)
  kw : ∀ i j, i < 7 → j < 7 → PySem.W.kitOne K (.ref (A7 i)) (.ref (A7 j)) = some (decide (i = j))
  kv : ∀ i, i < 7 → PySem.W.kitOne K (.ref (A7 i)) (.type "ValueError") = some true
  te : ∀ i, i < 7 → PySem.W.exmOne K (.ref (A7 i)) (.ref HE) = some true
/-- a dict of its own, or none -/
def Has (H : Hp) (d : Option Addr) : Prop := d = none ∨ ∃ dd fs, d = some dd ∧ H dd = some (.xd fs)
theorem Has.same {H H' : Hp} {d : Option Addr} (s : Same H H') (h : Has H d) : Has H' d := by
  rcases h with h | ⟨dd, fs, e, q⟩
  · exact .inl h
  · exact .inr ⟨dd, fs, e, s _ _ q⟩
def spWhich (A7 : Nat → Addr) (cls : Value) (d : Option Addr) : Sp := fun vs H Q _ => ∃ (a : Addr) (i : Nat), vs = [.ref a] ∧ i < 7 ∧ cls = .ref (A7 i) ∧ Has H d ∧ ∀ l H', Same H H' → H l = none → H' l = some (.lst [.int (i : Int)]) → Q (.ref l) H'
section
variable {P : Program} {w : World} {K : PySem.W.Frag} {mg : Str → Option Value} {base : Heap}
abbrev s_l_which : Stmt := top 63
theorem sc_l_which : FnScope ["_law_e", "_law_one", "_law_k"] ["_law_e"] (defScope s_l_which) := ⟨rfl, rfl, rfl, by decide +kernel, rfl, by decide +kernel, by decide +kernel⟩
theorem ok_l_which {f HE : Addr} {fd : FuncData} {A7 : Nat → Addr} {cls : Value} {d : Option Addr} (F : Fun K "_law_which" "_law_which" s_l_which f fd) (T : Tz mg) (G : K7 K mg A7 HE) : FnE P w K mg base 2 f fd ["_law_e"] cls d (spWhich A7 cls d) := by
  refine fnE F sc_l_which rfl (fun cdv A outer s H Q p hot hr hz hf h => ?_)
  obtain ⟨a, i, ea, hi, rfl, hd, k⟩ := h
  refine ⟨_, (pss_cons (ps_set (i := 1) sc_l_which.nd rfl (Or.inr rfl) (pe_lst (pa_cons (pe_callB (call_isP (p := p) List.mem_cons_self (G.ec i hi) hz hf) (by rfl) T.isinstance (by decide +kernel) (pa_cons (pv 0) (pa_cons (pe_glob (v := .ref (A7 0)) rfl G.g0 rfl) pa_nil))) (pa_cons (pe_callB (call_isP (p := p) List.mem_cons_self (G.ec i hi) hz hf) (by rfl) T.isinstance (by decide +kernel) (pa_cons (pv 0) (pa_cons (pe_glob (v := .ref (A7 1)) rfl G.g1 rfl) pa_nil))) (pa_cons (pe_callB (call_isP (p := p) List.mem_cons_self (G.ec i hi) hz hf) (by rfl) T.isinstance (by decide +kernel) (pa_cons (pv 0) (pa_cons (pe_glob (v := .ref (A7 2)) rfl G.g2 rfl) pa_nil))) (pa_cons (pe_callB (call_isP (p := p) List.mem_cons_self (G.ec i hi) hz hf) (by rfl) T.isinstance (by decide +kernel) (pa_cons (pv 0) (pa_cons (pe_glob (v := .ref (A7 3)) rfl G.g3 rfl) pa_nil))) pa_nil))))))
      (pss_cons (ps_set (i := 1) sc_l_which.nd rfl (Or.inr rfl) (pe_op op_cat (pv 1) (pe_lst (pa_cons (pe_callB (call_isP (p := p) List.mem_cons_self (G.ec i hi) hz hf) (by rfl) T.isinstance (by decide +kernel) (pa_cons (pv 0) (pa_cons (pe_glob (v := .ref (A7 4)) rfl G.g4 rfl) pa_nil))) (pa_cons (pe_callB (call_isP (p := p) List.mem_cons_self (G.ec i hi) hz hf) (by rfl) T.isinstance (by decide +kernel) (pa_cons (pv 0) (pa_cons (pe_glob (v := .ref (A7 5)) rfl G.g5 rfl) pa_nil))) (pa_cons (pe_callB (call_isP (p := p) List.mem_cons_self (G.ec i hi) hz hf) (by rfl) T.isinstance (by decide +kernel) (pa_cons (pv 0) (pa_cons (pe_glob (v := .ref (A7 6)) rfl G.g6 rfl) pa_nil))) pa_nil))))))
      (pss_cons (ps_if (pt_not (pt_val (pe_callB (call_isP (p := p) List.mem_cons_self (G.ec i hi) hz hf) (by rfl) T.isinstance (by decide +kernel) (pa_cons (pv 0) (pa_cons (pe_bltn (v := .ty "ValueError") (u := .type "ValueError") (by rfl) G.ve (by decide +kernel) rfl) pa_nil))))) (pss_one (ps_ret (pe_lst pa_nil))) pss_nil)
      (pss_one (ps_ret (pe_lcH (own := [("_law_k", 2)]) (g := gName 2) ⟨p, ⟨hot.1, hot.2⟩, List.mem_cons_self⟩ sc_l_which.nd (L2H.pi_range1H rfl T.range (pa_cons pe_int pa_nil)) (blkOk_by (own := [("_law_k", 2)]) (N := ["_law_e", "_law_one", "_law_k"]) (sc := defScope s_l_which) (by decide +kernel)) (fun _ _ _ _ _ => pg_name (i := 2) sc_l_which.nd rfl (Or.inl rfl)) (fun _ _ _ _ _ => pts_one (pt_val (pe_ix (ix_listK (K := K) rfl) (pv 1) (pv 2) (fun _ _ => rfl)))) (fun _ _ _ _ _ => pv 2))))))), ?_⟩
  have q : ∀ j, j < 7 → PySem.W.kitOne K (.ref (A7 i)) (.ref (A7 j)) = some (decide (i = j)) := fun j hj => G.kw i j hi hj
  refine ⟨_, rfl, _, _, _, rfl, hd, fun u r => r, q 0 (by decide), _, rfl, _, _, _, rfl, hd, fun u r => r, q 1 (by decide), _, rfl, _, _, _, rfl, hd, fun u r => r, q 2 (by decide), _, rfl, _, _, _, rfl, hd, fun u r => r, q 3 (by decide), by show 4 ≤ sizeLine; decide, fun l1 h1 => ?_⟩
  have s1 : Same H (upd H l1 (.lst [.bl (decide (i = 0)), .bl (decide (i = 1)), .bl (decide (i = 2)), .bl (decide (i = 3))])) := Same.new h1
  have e1 : (upd H l1 (.lst [.bl (decide (i = 0)), .bl (decide (i = 1)), .bl (decide (i = 2)), .bl (decide (i = 3))])) l1 = some (.lst [.bl (decide (i = 0)), .bl (decide (i = 1)), .bl (decide (i = 2)), .bl (decide (i = 3))]) := upd_same
  generalize upd H l1 (.lst [.bl (decide (i = 0)), .bl (decide (i = 1)), .bl (decide (i = 2)), .bl (decide (i = 3))]) = H1 at s1 e1 ⊢
  have d1 := hd.same s1
  refine ⟨_, rfl, _, rfl, _, _, _, rfl, d1, fun u r => r, q 4 (by decide), _, rfl, _, _, _, rfl, d1, fun u r => r, q 5 (by decide), _, rfl, _, _, _, rfl, d1, fun u r => r, q 6 (by decide), by show 3 ≤ sizeLine; decide, fun l2 h2 => ?_⟩
  have s2 : Same H1 (upd H1 l2 (.lst [.bl (decide (i = 4)), .bl (decide (i = 5)), .bl (decide (i = 6))])) := Same.new h2
  have e2 : (upd H1 l2 (.lst [.bl (decide (i = 4)), .bl (decide (i = 5)), .bl (decide (i = 6))])) l2 = some (.lst [.bl (decide (i = 4)), .bl (decide (i = 5)), .bl (decide (i = 6))]) := upd_same
  generalize upd H1 l2 (.lst [.bl (decide (i = 4)), .bl (decide (i = 5)), .bl (decide (i = 6))]) = H2 at s2 e2 ⊢
  refine ⟨l1, l2, _, _, rfl, rfl, s2 _ _ e1, e2, by show 7 ≤ sizeLine; decide, fun l3 h3 => ?_⟩
  have s3 : Same H2 (upd H2 l3 (.lst ([.bl (decide (i = 0)), .bl (decide (i = 1)), .bl (decide (i = 2)), .bl (decide (i = 3))] ++ [.bl (decide (i = 4)), .bl (decide (i = 5)), .bl (decide (i = 6))]))) := Same.new h3
  have e3 : (upd H2 l3 (.lst ([.bl (decide (i = 0)), .bl (decide (i = 1)), .bl (decide (i = 2)), .bl (decide (i = 3))] ++ [.bl (decide (i = 4)), .bl (decide (i = 5)), .bl (decide (i = 6))]))) l3 = some (.lst ((List.range 7).map fun j => V.bl (decide (i = j)))) := upd_same
  generalize upd H2 l3 (.lst ([.bl (decide (i = 0)), .bl (decide (i = 1)), .bl (decide (i = 2)), .bl (decide (i = 3))] ++ [.bl (decide (i = 4)), .bl (decide (i = 5)), .bl (decide (i = 6))])) = H3 at s3 e3 ⊢
  have s13 := (s1.trans s2).trans s3
  refine ⟨_, rfl, _, _, _, rfl, hd.same s13, fun u r => r, G.kv i hi, _, rfl, iteF ?_⟩
  refine ⟨7, rfl, by decide, by decide, fun D hD => ?_⟩
  refine lc_range (lo := 0) (n := 7) (fun j H4 => H4 D = some (.lst (if i < j then [.int (i : Int)] else [])) ∧ Same H3 H4) ⟨upd_same, Same.new hD⟩ ?_ ?_
  · rintro j H4 hj ⟨eD, s4⟩
    refine ⟨rfl, _, rfl, _, rfl, l3, _, _, _, rfl, rfl, SqL.of (s4 _ _ e3), at_of (j := j) (by omega) (by rw [List.getElem?_map, List.getElem?_range hj]; rfl), _, rfl, ?_⟩
    by_cases e : i = j
    · rw [decide_eq_true e]
      refine iteT ⟨_, rfl, _, eD, ?_, ?_, same_upd s4 hD⟩
      · rw [if_neg (show ¬ i < j by omega), sizeLine_eq]
        decide
      · rw [upd_same, if_neg (show ¬ i < j by omega), if_pos (show i < j + 1 by omega), e, Int.zero_add]
        rfl
    · rw [decide_eq_false e]
      refine iteF ⟨?_, s4⟩
      rw [eD]
      by_cases c : i < j
      · rw [if_pos c, if_pos (show i < j + 1 by omega)]
      · rw [if_neg c, if_neg (show ¬ i < j + 1 by omega)]
  · rintro H4 ⟨eD, s4⟩
    rw [if_pos hi] at eD
    exact k D H4 (s13.trans s4) (none_back s13 hD) eD
end
end Hd
set_option maxHeartbeats 8000000
/-! The law of the errors: one call for each. -/
namespace Hd
open PySem PySem.Spec PyProof.Rows L2 _root_.TL
def spDo (A7 : Nat → Addr) : Sp := fun vs H Q E => ∃ kind n : Nat, vs = [.int (kind : Int), .int (n : Int)] ∧ kind < 7 ∧ 1 ≤ n ∧ n ≤ 9 ∧ ∀ d H', Same H H' → (kind = 2 → ∃ x, d = some x ∧ H' x = some (.xd (bpF (some 1)))) → (kind = 6 → ∃ x, d = some x ∧ H' x = some (.xd (itF 2 3))) →
  (kind ≠ 2 → kind ≠ 6 → d = none) → E (.ref (A7 kind)) d H'
theorem bad_one {n : Nat} : hpsD (dI [(n : Int)]) = false := by
  rw [hpsD_dI]
  rfl
theorem good_two {a b : Nat} (ha : a ≤ 9) (hb : b ≤ 60) (h : 0 < a + b) : hpsB [(a : Int), (b : Int)] = true := two_good h (by omega) (by omega)
/-- to and fro -/
def alt (i : Nat) : List (Nat × Nat) := (List.range i).map fun k => (1 - k % 2, k % 2)
theorem alt_succ (i : Nat) : alt (i + 1) = alt i ++ [(1 - i % 2, i % 2)] := by
  unfold alt
  rw [List.range_succ, List.map_append]
  rfl
theorem alt_len (i : Nat) : (alt i).length = i := by
  unfold alt
  rw [List.length_map, List.length_range]
theorem fin_alt {n : Int} : ∀ i, fin [n, 2 * n] (alt i) = if i % 2 = 0 then [n, 2 * n] else [2 * n, n]
  | 0 => rfl
  | i + 1 => by
    rw [alt_succ, fin_snoc, fin_alt i]
    by_cases h : i % 2 = 0
    · rw [if_pos h, if_neg (show ¬ (i + 1) % 2 = 0 by omega), h]
      simp [mv, shf]
      omega
    · have h1 : i % 2 = 1 := by omega
      rw [if_neg h, if_pos (show (i + 1) % 2 = 0 by omega), h1]
      simp [mv, shf]
      omega
theorem alt_can {n : Int} (hn : 0 < n) (i : Nat) : stD (fin [n, 2 * n] (alt i)) (dS (1 - i % 2, i % 2)) = true := by
  rw [stD_dS, fin_alt]
  by_cases h : i % 2 = 0
  · rw [if_pos h, h]
    simp [can]
    omega
  · have h1 : i % 2 = 1 := by omega
    rw [if_neg h, h1]
    simp [can]
    omega
def txt6 (n : Nat) : Str := ("heaps " : Str) ++ Str.ofString (toString (n : Int)) ++ (" 1\nstep 0 " : Str) ++ Str.ofString (toString ((n : Int) + 1))
theorem txt6_tl (n : Nat) : tl (txt6 n) = tl ("heaps " : Str) ++ numL n ++ tl (" 1\nstep 0 " : Str) ++ numL (n + 1) := by
  unfold txt6
  rw [tl_append, tl_append, tl_append, tl_num, show (n : Int) + 1 = ((n + 1 : Nat) : Int) by omega, tl_num]
def isB : Rd → Bool
  | .bad a b => a == 2 && b == 3
  | _ => false
theorem isB_eq {r : Rd} (h : isB r = true) : r = .bad 2 3 := by
  unfold isB at h
  split at h
  · simp at h
    rw [h.1, h.2]
  · cases h
theorem txt6_bad {n : Nat} (h1 : 1 ≤ n) (h9 : n ≤ 9) : rdL (lns (tl (txt6 n))) = .bad 2 3 ∧ (txt6 n).length ≤ 40 := by
  rw [len_tl, txt6_tl]
  refine (fun h : isB (rdL (lns (tl ("heaps " : Str) ++ numL n ++ tl (" 1\nstep 0 " : Str) ++ numL (n + 1)))) = true ∧ (tl ("heaps " : Str) ++ numL n ++ tl (" 1\nstep 0 " : Str) ++ numL (n + 1)).length ≤ 40 => ⟨isB_eq h.1, h.2⟩) ?_
  have : n = 1 ∨ n = 2 ∨ n = 3 ∨ n = 4 ∨ n = 5 ∨ n = 6 ∨ n = 7 ∨ n = 8 ∨ n = 9 := by omega
  rcases this with e | e | e | e | e | e | e | e | e <;> subst e <;> decide +kernel
theorem txt6_sz {n : Nat} (h1 : 1 ≤ n) (h9 : n ≤ 9) : ("heaps " : Str).length + (Str.ofString (toString (n : Int))).length ≤ 100 ∧ (("heaps " : Str) ++ Str.ofString (toString (n : Int))).length + (" 1\nstep 0 " : Str).length ≤ 100 ∧
    (("heaps " : Str) ++ Str.ofString (toString (n : Int)) ++ (" 1\nstep 0 " : Str)).length + (Str.ofString (toString ((n : Int) + 1))).length ≤ 100 := by
  rw [show (n : Int) + 1 = ((n + 1 : Nat) : Int) by omega]
  simp only [len_tl, tl_append, tl_num]
  have : n = 1 ∨ n = 2 ∨ n = 3 ∨ n = 4 ∨ n = 5 ∨ n = 6 ∨ n = 7 ∨ n = 8 ∨ n = 9 := by omega
  rcases this with e | e | e | e | e | e | e | e | e <;> subst e <;> decide +kernel
theorem log_few {n : Nat} (h : n ≤ 100) : n.log2 < 1920 := Nat.lt_of_le_of_lt (Nat.log2_le_self n) (by omega)
section
variable {P : Program} {w : World} {K : PySem.W.Frag} {mg : Str → Option Value} {base : Heap}
abbrev s_l_do : Stmt := top 64
theorem sc_l_do : FnScope ["_law_kind", "_law_n", "_law_desk", "_law_k"] ["_law_kind", "_law_n"] (defScope s_l_do) := ⟨rfl, rfl, rfl, by decide +kernel, rfl, by decide +kernel, by decide +kernel⟩
theorem ok_l_do {f C : Addr} {fd : FuncData} {A7 : Nat → Addr} (F : Fun K "_law_do" "_law_do" s_l_do f fd) (T : DskT K mg C) (C_steps : Cal P w K mg base (L2N.CX P w) 4 "steps" ["heaps"] (spStepsX K (A7 0))) (C_stepped : Cal P w K mg base (L2N.CX P w) 4 "stepped" ["heaps", "step"] (spSteppedX K (A7 0) (A7 1)))
    (C_judge : Cal P w K mg base (L2N.CX P w) 4 "judge" ["heaps", "plan"] (spJudgeX K (A7 0) (A7 2))) (C_after : Cal P w K mg base (L2N.CX P w) 6 "after" ["heaps", "many"] (spAfterX K (A7 0) (A7 3))) (C_fewest : Cal P w K mg base (L2N.CX P w) 7 "fewest" ["heaps"] (spFewest K (A7 0) (A7 4)))
    (C_Desk : CalN P w K mg base CX0 4 C "Desk" ["self", "heaps"] (spInit K C)) (C_move : CalM P w K mg base (L2N.CX P w) 4 C "move" ["self", "one", "other"] (spMove K C (A7 1) (A7 5))) (C_read_plan : Cal P w K mg base (L2N.CX P w) 5 "read_plan" ["text"] (spRead K (A7 6))) :
    FnOk P w K mg base (L2N.CX P w) 8 f fd ["_law_kind", "_law_n"] (spDo A7) := by
  refine okN F sc_l_do (fun vs H Q E h => ?_) (fun cdv A outer s H vs Q E hr h => ?_)
  · obtain ⟨kind, n, rfl, _⟩ := h
    rfl
  · obtain ⟨kind, n, rfl, hk, hn, hn9, k⟩ := h
    refine ⟨_, (pss_cons (ps_if (pt_cmpR op_eq (pv 0) pe_int (nomark _)) (pss_one (ps_expr (pe_cal C_steps hr rfl (L2N.passes_call (L2N.takes_of rfl rfl rfl rfl) (fun _ _ _ _ h => h)) (pa_cons (pe_tup (pa_cons (pv 1) pa_nil)) pa_nil)))) pss_nil)
      (pss_cons (ps_if (pt_cmpR op_eq (pv 0) pe_int (nomark _)) (pss_one (ps_expr (pe_cal C_stepped hr rfl (L2N.passes_call (L2N.takes_of rfl rfl rfl rfl) (fun _ _ _ _ h => h)) (pa_cons (pe_tup (pa_cons (pv 1) (pa_cons (pe_op op_add (pv 1) pe_int) pa_nil))) (pa_cons (pe_tup (pa_cons pe_int (pa_cons pe_int pa_nil))) pa_nil))))) pss_nil)
      (pss_cons (ps_if (pt_cmpR op_eq (pv 0) pe_int (nomark _)) (pss_one (ps_expr (pe_cal C_judge hr rfl (L2N.passes_call (L2N.takes_of rfl rfl rfl rfl) (fun _ _ _ _ h => h)) (pa_cons (pe_tup (pa_cons (pv 1) (pa_cons (pv 1) pa_nil))) (pa_cons (pe_tup (pa_cons (pe_tup (pa_cons pe_int (pa_cons pe_int pa_nil))) (pa_cons (pe_tup (pa_cons (pv 1) (pa_cons (pv 1) pa_nil))) pa_nil))) pa_nil))))) pss_nil)
      (pss_cons (ps_if (pt_cmpR op_eq (pv 0) pe_int (nomark _)) (pss_one (ps_expr (pe_cal C_after hr rfl (L2N.passes_call (L2N.takes_of rfl rfl rfl rfl) (fun _ _ _ _ h => h)) (pa_cons (pe_tup (pa_cons (pv 1) (pa_cons (pv 1) pa_nil))) (pa_cons (pe_un un_neg (pv 1)) pa_nil))))) pss_nil)
      (pss_cons (ps_if (pt_cmpR op_eq (pv 0) pe_int (nomark _)) (pss_one (ps_expr (pe_cal C_fewest hr rfl (L2N.passes_call (L2N.takes_of rfl rfl rfl rfl) (fun _ _ _ _ h => h)) (pa_cons (pe_tup (pa_cons pe_int (pa_cons (pv 1) pa_nil))) pa_nil)))) pss_nil)
      (pss_cons (ps_if (pt_cmpR op_eq (pv 0) pe_int (nomark _)) (pss_cons (ps_set (i := 2) sc_l_do.nd rfl (Or.inl rfl) (pe_mak C_Desk hr rfl pass0 (pa_cons (pe_tupZ (pa_cons (pv 1) (pa_cons (pe_op op_mul pe_int (pv 1)) pa_nil))) pa_nil)))
      (pss_one (ps_for (passes_of rfl) rfl (pi_range1 rfl T.range (pa_cons pe_int pa_nil)) (pg_name (i := 3) sc_l_do.nd rfl (Or.inl rfl))
      (pss_one (ps_expr (pe_mth C_move T.cl hr (L2N.passes_call (L2N.takes_of rfl rfl rfl rfl) (fun _ _ _ _ h => h)) (pv 2) (pa_cons (pe_op op_add (pe_op op_sub pe_int (pv 3)) (pe_op op_mul (pe_op op_fdiv (pv 3) pe_int) pe_int)) (pa_cons (pe_op op_sub (pv 3) (pe_op op_mul (pe_op op_fdiv (pv 3) pe_int) pe_int)) pa_nil)))))))) pss_nil)
      (pss_one (ps_if (pt_cmpR op_eq (pv 0) pe_int (nomark _)) (pss_one (ps_expr (pe_cal C_read_plan hr rfl (L2N.passes_call (L2N.takes_of rfl rfl rfl rfl) (fun _ _ _ _ h => h)) (pa_cons (pe_op op_add_str (pe_op op_add_str (pe_op op_add_str pe_str (pe_callTy call_str_int (by rfl) T.str (by decide +kernel) (pa_cons (pv 1) pa_nil))) pe_str) (pe_callTy call_str_int (by rfl) T.str (by decide +kernel) (pa_cons (pe_op op_add (pv 1) pe_int) pa_nil))) pa_nil)))) pss_nil)))))))), ?_⟩
    refine ⟨_, rfl, rfl, _, rfl, ?_⟩
    rw [dec_int]
    refine ite2 (fun hz => ?_) (fun hz0 => ?_)
    · have e : kind = 0 := by have := of_decide_eq_true hz; omega
      subst e
      refine ⟨_, rfl, by show 1 ≤ sizeLine; decide, fun TT hT => ?_⟩
      refine ⟨_, dI [(n : Int)], rfl, ⟨dp_I (SqT.of upd_same), fun _ H' s' => k none H' ((Same.new hT).trans s') (fun z => nomatch z) (fun z => nomatch z) fun _ _ => rfl⟩, fun ns e hb => ?_⟩
      have e := dI_inj e
      subst e
      have := (hps_len hb).1
      simp at this
    refine ⟨_, rfl, rfl, _, rfl, ?_⟩
    rw [dec_int]
    refine ite2 (fun hz => ?_) (fun hz1 => ?_)
    · have e : kind = 1 := by have := of_decide_eq_true hz; omega
      subst e
      have hg := good_two (a := n) (b := n + 1) hn9 (by omega) (by omega)
      refine ⟨_, rfl, _, rfl, _, _, rfl, rfl, by show 2 ≤ sizeLine; decide, fun TT hT => ?_⟩
      have sT : Same H (upd H TT (.tup [.int (n : Int), .int ((n : Int) + 1)])) := Same.new hT
      have eT : (upd H TT (.tup [.int (n : Int), .int ((n : Int) + 1)])) TT = some (.tup ([(n : Int), ((n + 1 : Nat) : Int)].map V.int)) := upd_same
      generalize upd H TT (.tup [.int (n : Int), .int ((n : Int) + 1)]) = H1 at sT eT ⊢
      refine ⟨by show 2 ≤ sizeLine; decide, fun UU hU => ?_⟩
      have sU : Same H1 (upd H1 UU (.tup [.int 0, .int 1])) := Same.new hU
      refine ⟨_, _, dI [(n : Int), ((n + 1 : Nat) : Int)], dS (0, 1), rfl, ⟨dp_I (SqT.of (sU _ _ eT)), fun z => ?_⟩, dp_S (i := 0) (j := 1) (SqT.of upd_same), fun ns ed hb => ?_⟩
      · rw [hpsD_dI, hg] at z
        cases z
      · have ed := dI_inj ed
        subst ed
        refine ⟨fun _ H' s' => k none H' ((sT.trans sU).trans s') (fun z => nomatch z) (fun z => nomatch z) fun _ _ => rfl, fun i j e _ _ _ hc => ?_⟩
        have e := dS_inj e
        cases e
        unfold can at hc
        simp at hc
        omega
    refine ⟨_, rfl, rfl, _, rfl, ?_⟩
    rw [dec_int]
    refine ite2 (fun hz => ?_) (fun hz2 => ?_)
    · have e : kind = 2 := by have := of_decide_eq_true hz; omega
      subst e
      have hg := good_two (a := n) (b := n) hn9 (by omega) (by omega)
      refine ⟨_, rfl, _, rfl, by show 2 ≤ sizeLine; decide, fun TT hT => ?_⟩
      have sT : Same H (upd H TT (.tup [.int (n : Int), .int (n : Int)])) := Same.new hT
      have eT : (upd H TT (.tup [.int (n : Int), .int (n : Int)])) TT = some (.tup ([(n : Int), (n : Int)].map V.int)) := upd_same
      generalize upd H TT (.tup [.int (n : Int), .int (n : Int)]) = H1 at sT eT ⊢
      refine ⟨by show 2 ≤ sizeLine; decide, fun U1 h1 => ?_⟩
      have s1 : Same H1 (upd H1 U1 (.tup [.int 0, .int 1])) := Same.new h1
      have e1 : (upd H1 U1 (.tup [.int 0, .int 1])) U1 = some (.tup [.int ((0 : Nat) : Int), .int ((1 : Nat) : Int)]) := upd_same
      generalize upd H1 U1 (.tup [.int 0, .int 1]) = H2 at s1 e1 ⊢
      refine ⟨_, rfl, _, rfl, by show 2 ≤ sizeLine; decide, fun U2 h2 => ?_⟩
      have s2 : Same H2 (upd H2 U2 (.tup [.int (n : Int), .int (n : Int)])) := Same.new h2
      have e2 : (upd H2 U2 (.tup [.int (n : Int), .int (n : Int)])) U2 = some (.tup [.int (n : Int), .int (n : Int)]) := upd_same
      generalize upd H2 U2 (.tup [.int (n : Int), .int (n : Int)]) = H3 at s2 e2 ⊢
      refine ⟨by show 2 ≤ sizeLine; decide, fun U hU => ?_⟩
      have s3 : Same H3 (upd H3 U (.tup [.ref U1, .ref U2])) := Same.new hU
      have eU : (upd H3 U (.tup [.ref U1, .ref U2])) U = some (.tup [.ref U1, .ref U2]) := upd_same
      generalize upd H3 U (.tup [.ref U1, .ref U2]) = H4 at s3 eU ⊢
      have hd4 : DpAll K H4 [.ref U1, .ref U2] [dS (0, 1), dS (n, n)] := .cons (dp_S (SqT.of (s3 _ _ (s2 _ _ e1)))) (.cons (dp_S (SqT.of (s3 _ _ e2))) .nil)
      have hpl : plD ((2 : Nat) : Int) (.tuple [dS (0, 1), dS (n, n)]) = some (some 1) := by
        refine plD_at (i := 1) (by show ¬ 20000 < 2; decide) (by show 1 < 2; decide) ?_ fun j hj => ?_
        · show prD ((2 : Nat) : Int) (dS (n, n)) = false
          rw [prD_dS, decide_eq_false (show ¬ n ≠ n from fun z => z rfl), Bool.and_false, Bool.and_false]
        · have e : j = 0 := by omega
          subst e
          show prD ((2 : Nat) : Int) (dS (0, 1)) = true
          rw [prD_dS]
          rfl
      refine ⟨_, _, dI [(n : Int), (n : Int)], _, rfl, ⟨dp_I (SqT.of (s3 _ _ (s2 _ _ (s1 _ _ eT)))), fun z => ?_⟩, .tup (SqT.of eU) hd4, fun ns ed hb => ?_⟩
      · rw [hpsD_dI, hg] at z
        cases z
      · have ed := dI_inj ed
        subst ed
        refine ⟨fun o ho x H' s' hx => ?_, fun ps e hst hl => ?_⟩
        · have e := hpl.symm.trans ho
          cases e
          exact k (some x) H' ((((sT.trans s1).trans s2).trans s3).trans s') (fun _ => ⟨x, rfl, hx⟩) (fun z => nomatch z) fun z => absurd rfl z
        · rw [e] at hpl
          have := plD_dP (n := 2) hst hl
          rw [this] at hpl
          cases hpl
    refine ⟨_, rfl, rfl, _, rfl, ?_⟩
    rw [dec_int]
    refine ite2 (fun hz => ?_) (fun hz3 => ?_)
    · have e : kind = 3 := by have := of_decide_eq_true hz; omega
      subst e
      have hg := good_two (a := n) (b := n) hn9 (by omega) (by omega)
      refine ⟨_, rfl, _, rfl, by show 2 ≤ sizeLine; decide, fun TT hT => ?_⟩
      have sT : Same H (upd H TT (.tup [.int (n : Int), .int (n : Int)])) := Same.new hT
      have eT : (upd H TT (.tup [.int (n : Int), .int (n : Int)])) TT = some (.tup ([(n : Int), (n : Int)].map V.int)) := upd_same
      generalize upd H TT (.tup [.int (n : Int), .int (n : Int)]) = H1 at sT eT ⊢
      refine ⟨_, rfl, _, rfl, ?_⟩
      have htw : twD (dI [(n : Int), (n : Int)]) = true := by rw [twD_dI hg]; rfl
      refine ⟨_, _, dI [(n : Int), (n : Int)], .int (-(n : Int)), rfl, ⟨dp_I (SqT.of eT), fun z => ?_⟩, .int _, fun a b ed _ => ⟨fun _ H' s' => ?_, fun k o tw e hk _ => ?_⟩⟩
      · rw [htw] at z
        cases z
      · exact k none H' (sT.trans s') (fun z => nomatch z) (fun z => nomatch z) fun _ _ => rfl
      · have e := PyData.int.inj e
        omega
    refine ⟨_, rfl, rfl, _, rfl, ?_⟩
    rw [dec_int]
    refine ite2 (fun hz => ?_) (fun hz4 => ?_)
    · have e : kind = 4 := by have := of_decide_eq_true hz; omega
      subst e
      have hg := good_two (a := n) (b := 40) hn9 (by omega) (by omega)
      have hg : hpsB [(40 : Int), (n : Int)] = true := two_good (a := 40) (b := n) (by omega) (by omega) (by omega)
      refine ⟨_, rfl, by show 2 ≤ sizeLine; decide, fun TT hT => ?_⟩
      have sT : Same H (upd H TT (.tup [.int 40, .int (n : Int)])) := Same.new hT
      have eT : (upd H TT (.tup [.int 40, .int (n : Int)])) TT = some (.tup ([(40 : Int), (n : Int)].map V.int)) := upd_same
      generalize upd H TT (.tup [.int 40, .int (n : Int)]) = H1 at sT eT ⊢
      have hs : smlB [(40 : Int), (n : Int)] = false := by
        unfold smlB
        rw [decide_eq_false (show ¬ [(40 : Int), (n : Int)].sum ≤ 40 by simp only [List.sum_cons, List.sum_nil]; omega), Bool.and_false]
      refine ⟨_, dI [(40 : Int), (n : Int)], rfl, dp_I (SqT.of eT), fun z => ?_, fun ns ed hb => ?_⟩
      · rw [hpsD_dI, hg] at z
        cases z
      · have ed := dI_inj ed
        subst ed
        refine ⟨fun _ H' s' => k none H' (sT.trans s') (fun z => nomatch z) (fun z => nomatch z) fun _ _ => rfl, fun z => ?_⟩
        rw [hs] at z
        cases z
    refine ⟨_, rfl, rfl, _, rfl, ?_⟩
    rw [dec_int]
    refine ite2 (fun hz => ?_) (fun hz5 => ?_)
    · have e : kind = 5 := by have := of_decide_eq_true hz; omega
      subst e
      refine ⟨_, rfl, _, rfl, _, _, rfl, rfl, .inl ⟨by decide, by decide⟩, by show 2 ≤ sizeLine; decide, fun t o ht ho => ?_⟩
      have s0 : Same H (upd H t (.frz o (.tup [.int (n : Int), .int (2 * (n : Int))]))) := Same.new ht
      have Z0 : TupZ (upd H t (.frz o (.tup [.int (n : Int), .int (2 * (n : Int))]))) t ([(n : Int), 2 * (n : Int)].map V.int) := ⟨o, ho, upd_same⟩
      generalize upd H t (.frz o (.tup [.int (n : Int), .int (2 * (n : Int))])) = H1 at s0 Z0 ⊢
      have hg : hpsB [(n : Int), 2 * (n : Int)] = true := by
        rw [show 2 * (n : Int) = ((2 * n : Nat) : Int) by omega]
        exact good_two hn9 (by omega) (by omega)
      refine fun x dx hx hdx hne => ?_
      have s1 : Same H1 (upd (upd H1 dx (.own x)) x (.ins C dx [])) := fun b o e => by
        rw [upd_ne (ne_of_none e hx), upd_ne (ne_of_none e hdx)]
        exact e
      refine ⟨x, dx, t, [(n : Int), 2 * (n : Int)], rfl, upd_same, Z0.same s1, hg, fun ls lt H' nls nlt kp D => ⟨rfl, ?_⟩⟩
      have s2 : Same H H' := s0.trans fun b o e => kp b o (s1 b o e) (ne_of_none e hx)
      have hls : H ls = none := none_back (s0.trans s1) nls
      have hlt : H lt = none := none_back (s0.trans s1) nlt
      refine ⟨101, rfl, by decide, by decide, ?_⟩
      refine for_range (lo := 0) (n := 101) (fun i σ H2 => i ≤ 100 ∧ (∃ v : Option V, σ = [some (.int ((5 : Nat) : Int)), some (.int (n : Int)), some (.ref x), v]) ∧ Same H H2 ∧ ∃ hs ps, DeskAt K C H2 x ls lt [(n : Int), 2 * (n : Int)] (alt i) hs ps) ⟨by decide, ⟨none, rfl⟩, s2, _, _, D⟩ ?_ ?_
      · rintro i σ H2 hi ⟨hi1, ⟨v, rfl⟩, s3, hs, ps, D2⟩
        rw [Int.zero_add]
        obtain ⟨dx2, hx2⟩ := D2.ins
        have e1 : PyData.tuple [.int (1 - (i : Int) + (i : Int) / 2 * 2), .int ((i : Int) - (i : Int) / 2 * 2)] = dS (1 - i % 2, i % 2) := by
          unfold dS
          rw [show 1 - (i : Int) + (i : Int) / 2 * 2 = ((1 - i % 2 : Nat) : Int) by omega, show (i : Int) - (i : Int) / 2 * 2 = ((i % 2 : Nat) : Int) by omega]
        have hc := alt_can (n := (n : Int)) (by omega) i
        rw [← e1] at hc
        refine ⟨_, rfl, x, dx2, _, rfl, hx2, pf_move _ _, _, rfl, _, _, rfl, rfl, _, rfl, _, _, rfl, rfl, ⟨by decide, by decide⟩, _, _, rfl, rfl, .inr ⟨by decide, by decide⟩, _, _, rfl, rfl, _, rfl, _, rfl, _, _, rfl, rfl, ⟨by decide, by decide⟩, _, _, rfl, rfl, .inr ⟨by decide, by decide⟩, _, _, rfl, rfl, ?_⟩
        refine ⟨x, ls, lt, _, alt i, hs, ps, _, _, .int _, .int _, rfl, D2, by rw [alt_len]; omega, .int _, .int _, fun i' j' e _ _ _ _ hlen e2 u H3 c _ _ D3 => ?_, fun z => ?_, fun _ _ H3 s' => ?_⟩
        · rw [alt_len] at hlen
          have e := dS_inj (e1.symm.trans e)
          cases e
          rw [alt_succ]
          refine ⟨by omega, ⟨_, rfl⟩, Same.chg s3 c fun a ha => ?_, _, _, D3⟩
          rcases List.mem_cons.mp ha with rfl | ha
          · exact hls
          · rw [List.mem_singleton.mp ha]
            exact hlt
        · rw [hc] at z
          cases z
        · exact k none H3 (s3.trans s') (fun z => nomatch z) (fun z => nomatch z) fun _ _ => rfl
      · rintro σ H2 ⟨hi1, _⟩
        exact absurd hi1 (by decide)
    refine ⟨_, rfl, rfl, _, rfl, ?_⟩
    rw [dec_int]
    refine ite2 (fun hz => ?_) (fun hz6 => ?_)
    · have e : kind = 6 := by have := of_decide_eq_true hz; omega
      subst e
      obtain ⟨t1, t2⟩ := txt6_bad hn hn9
      obtain ⟨z1, z2, z3⟩ := txt6_sz hn hn9
      have zl := sizeLine_eq
      refine ⟨_, rfl, (n : Int), rfl, log_few (n := n) (by omega), _, _, rfl, rfl, by omega, _, _, rfl, rfl, by omega, _, rfl, _, _, rfl, rfl, (n : Int) + 1, rfl, log_few (n := n + 1) (by omega), _, _, rfl, rfl, by omega, txt6 n, rfl, by omega, fun ns ps e => ?_, fun l j e d H' s' hd => ?_⟩
      · rw [t1] at e
        cases e
      · rw [t1] at e
        cases e
        exact k (some d) H' s' (fun z => nomatch z) (fun _ => ⟨d, rfl, hd⟩) fun _ z => absurd rfl z
    · have n0 : kind ≠ 0 := fun z => hz0 (decide_eq_true (by omega))
      have n1 : kind ≠ 1 := fun z => hz1 (decide_eq_true (by omega))
      have n2 : kind ≠ 2 := fun z => hz2 (decide_eq_true (by omega))
      have n3 : kind ≠ 3 := fun z => hz3 (decide_eq_true (by omega))
      have n4 : kind ≠ 4 := fun z => hz4 (decide_eq_true (by omega))
      have n5 : kind ≠ 5 := fun z => hz5 (decide_eq_true (by omega))
      have n6 : kind ≠ 6 := fun z => hz6 (decide_eq_true (by omega))
      omega
end
end Hd
set_option maxHeartbeats 8000000
/-! The law of the errors. -/
namespace Hd
open PySem PySem.Spec PyProof.Rows L2 _root_.TL
theorem hot_of {X : Cx} {a : Addr} {oe : Obj} {cls : Value} {d : Option Addr} {pn : List (Addr × Obj)} (hz : L2N.Zn cls d oe) (hf : ∃ vs, oe.data = .fields vs) : L2H.Hot1 (X.suite a pn).A (a, oe) := by
  obtain ⟨vs, e⟩ := hf
  exact ⟨rfl, vs, e, hz.2.2 vs e⟩
theorem ne_self {K : PySem.W.Frag} {H : Hp} {x y : V} {d : PyData} {Q : VK} (hx : Dp K H x d) (hy : Dp K H y d) (hs : SeqAt.shaped d = true) (he : PyData.eqv d d = true) (k : Q (.bl false) H) : rNeD K x y H Q := ⟨d, d, hx, hy, hs, hs, by rw [he]; exact k⟩
theorem eq_self' {K : PySem.W.Frag} {H : Hp} {x y : V} {d : PyData} {Q : VK} (hx : Dp K H x d) (hy : Dp K H y d) (hs : SeqAt.shaped d = true) (he : PyData.eqv d d = true) (k : Q (.bl true) H) : rEqD K x y H Q := ⟨d, d, hx, hy, hs, hs, by rw [he]; exact k⟩
theorem one_ok (k : Int) : SeqAt.shaped (.list [.int k]) = true ∧ PyData.eqv (.list [.int k]) (.list [.int k]) = true :=
  ⟨shaped_mk (by simp [PyData.canLay0, PyData.canLayAll0]) (by simp [PyData.depth, PyData.depthAll]), by simp [PyData.eqv, PyData.eqvAll]⟩
def sev (a0 a1 a2 a3 a4 a5 a6 : Addr) : Nat → Addr
  | 0 => a0
  | 1 => a1
  | 2 => a2
  | 3 => a3
  | 4 => a4
  | 5 => a5
  | _ => a6
theorem all7 {p : Nat → Prop} (p0 : p 0) (p1 : p 1) (p2 : p 2) (p3 : p 3) (p4 : p 4) (p5 : p 5) (p6 : p 6) : ∀ i, i < 7 → p i
  | 0, _ => p0
  | 1, _ => p1
  | 2, _ => p2
  | 3, _ => p3
  | 4, _ => p4
  | 5, _ => p5
  | 6, _ => p6
  | i + 7, h => absurd h (by omega)
theorem two7 {p : Nat → Nat → Prop} (h : ∀ i, i < 7 → ∀ j, j < 7 → p i j) : ∀ i j, i < 7 → j < 7 → p i j := fun i j a b => h i a j b
def spLaw (K : PySem.W.Frag) : Sp := fun vs H Q _ => ∃ (a : Addr) (ns : List Int), vs = [.ref a] ∧ SqL K H a (ns.map V.int) ∧ ns.length ≤ 63 ∧ ∀ H', Q (.bl true) H'
section
variable {P : Program} {w : World} {K : PySem.W.Frag} {mg : Str → Option Value} {base : Heap}
abbrev s_law : Stmt := top 65
theorem sc_law : FnScope ["_law_script", "_law_h", "_law_n", "_law_kind", "_law_told", "_law_e"] ["_law_script"] (defScope s_law) := ⟨rfl, rfl, rfl, by decide +kernel, rfl, by decide +kernel, by decide +kernel⟩
theorem ok_law {f fW HE : Addr} {fd fdW : FuncData} {A7 : Nat → Addr} (F : Fun K "law" "law" s_law f fd) (T : Tz mg) (G : K7 K mg A7 HE) (XF2 : XfC K (A7 2)) (no2 : PySem.W.findIn K (.ref (A7 2)) "index" = some none) (te2 : PySem.W.exmOne K (.ref (A7 2)) (.ref (A7 2)) = some true)
    (XF6 : XfC K (A7 6)) (nl6 : PySem.W.findIn K (.ref (A7 6)) "line" = some none) (nw6 : PySem.W.findIn K (.ref (A7 6)) "word" = some none) (te6 : PySem.W.exmOne K (.ref (A7 6)) (.ref (A7 6)) = some true)
    (FW : ∀ cls d, FnE P w K mg base 2 fW fdW ["_law_e"] cls d (spWhich A7 cls d)) (FWm : mg "_law_which" = some (.ref fW)) (FWk : PySem.W.keepIn K (.ref fW) = true) (FWb : L2.Binds K fdW ["_law_e"] [])
    (C_l_mix : Cal P w K mg base CX0 1 "_law_mix" ["_law_script", "_law_seed"] (spMix K)) (C_l_next : Cal P w K mg base CX0 1 "_law_next" ["_law_h", "_law_bound"] spNext) (C_l_do : Cal P w K mg base (L2N.CX P w) 8 "_law_do" ["_law_kind", "_law_n"] (spDo A7)) : FnOk P w K mg base CX0 10 f fd ["_law_script"] (spLaw K) := by
  refine F.ok sc_law (fun vs H Q E h => ?_) (fun cdv A outer s0 H vs Q E hr h => ?_)
  · obtain ⟨a, ns, rfl, _⟩ := h
    rfl
  · obtain ⟨a, ns, rfl, hS, hlen, k⟩ := h
    refine ⟨_, (pss_cons (ps_set (i := 1) sc_law.nd rfl (Or.inl rfl) (pe_cal C_l_mix hr rfl pass0 (pa_cons (pv 0) (pa_cons pe_int pa_nil))))
      (pss_cons (ps_set (i := 2) sc_law.nd rfl (Or.inl rfl) (pe_op op_add pe_int (pe_cal C_l_next hr rfl pass0 (pa_cons (pv 1) (pa_cons pe_int pa_nil)))))
      (pss_cons (ps_set (i := 3) sc_law.nd rfl (Or.inl rfl) (pe_cal C_l_next hr rfl pass0 (pa_cons (pv 1) (pa_cons pe_int pa_nil))))
      (pss_cons (ps_set (i := 4) sc_law.nd rfl (Or.inl rfl) (pe_lst pa_nil))
      (pss_cons (L2N.ps_try_as (i := 5) (tb := fun W => tDrop (tCallS (spDo A7) (WE W) (tCons (tVar 3) (tCons (tVar 2) tNil)))) (ts := fun a cls d => tAsg (tCalE a (spWhich A7 cls d) (tCons (tVar 5) tNil)) (gName 4)) (Wout := fun _ _ _ _ => False) rfl rfl sc_law.nd rfl rfl ⟨rfl, by decide, Or.inl G.gH⟩ takes0N
      (fun W pn xe tk _ => (pss_one (ps_expr (by exact (pe_calS C_l_do hr rfl (fun σ => L2N.passAt tk σ) (by exact (pa_cons (pv 3) (pa_cons (pv 2) pa_nil))))))))
      (fun a oe cls d pn hz hf => (pss_one (ps_set (i := 4) sc_law.nd rfl (Or.inl rfl) (pe_calE (FW cls d) ⟨(hr.mono (by decide : 2 ≤ 9)).dp, (hr.mono (by decide : 2 ≤ 9)).un⟩ (hot_of hz hf) List.mem_cons_self (L2N.Zn.zc hz) rfl FWm FWk FWb (pa_cons (pv 5) pa_nil))))))
      (pss_cons (ps_if (pt_cmpR (op_neD hr.units) (pv 4) (pe_lst (pa_cons (pv 3) pa_nil)) (nomark _)) (pss_one (ps_ret pe_bl)) pss_nil)
      (pss_cons (L2N.ps_try_as (i := 5) (tb := fun W => tDrop (tCallS (spDo A7) (WE W) (tCons (tC (.int 2)) (tCons (tVar 2) tNil)))) (ts := fun a cls d => _) (Wout := fun _ _ _ _ => False) rfl rfl sc_law.nd rfl rfl ⟨rfl, by decide, Or.inl G.g2⟩ takes0N
      (fun W pn xe tk _ => (pss_one (ps_expr (by exact (pe_calS C_l_do hr rfl (fun σ => L2N.passAt tk σ) (by exact (pa_cons pe_int (pa_cons (pv 2) pa_nil))))))))
      (fun a oe cls d pn hz hf => (pss_one (ps_if (pt_cmpR op_ne (pe_xf XF2 no2 (L2N.Zn.zc hz) hf (pv 5)) pe_int (nomark _)) (pss_one (ps_ret pe_bl)) pss_nil))))
      (pss_cons (L2N.ps_try_as (i := 5) (tb := fun W => tDrop (tCallS (spDo A7) (WE W) (tCons (tC (.int 6)) (tCons (tVar 2) tNil)))) (ts := fun a cls d => _) (Wout := fun _ _ _ _ => False) rfl rfl sc_law.nd rfl rfl ⟨rfl, by decide, Or.inl G.g6⟩ takes0N
      (fun W pn xe tk _ => (pss_one (ps_expr (by exact (pe_calS C_l_do hr rfl (fun σ => L2N.passAt tk σ) (by exact (pa_cons pe_int (pa_cons (pv 2) pa_nil))))))))
      (fun a oe cls d pn hz hf => (pss_one (ps_ret (pe_cmpR (show OpR _ _ (rEqD K) from op_eqD (by have z := units64 hr; exact z)) (pe_tup (pa_cons (pe_xf XF6 nl6 (L2N.Zn.zc hz) hf (pv 5)) (pa_cons (pe_xf XF6 nw6 (L2N.Zn.zc hz) hf (pv 5)) pa_nil))) (pe_tup (pa_cons pe_int (pa_cons pe_int pa_nil))) (nomark _))))))
      (pss_one (ps_ret pe_bl)))))))))), ?_⟩
    refine ⟨_, rfl, a, ns, 10, rfl, hS, hlen, fun h c H1 nh nc s1 D1 => ?_⟩
    refine ⟨_, rfl, h, c, 9, rfl, D1, by decide, by decide, fun n1 H2 n0 n9 D2 k2 => ?_⟩
    obtain ⟨m1, rfl⟩ := Int.eq_ofNat_of_zero_le n0
    refine ⟨_, _, rfl, rfl, ?_⟩
    refine ⟨_, rfl, h, c, 7, rfl, D2, by decide, by decide, fun k1 H3 k0 k7 D3 k3 => ?_⟩
    obtain ⟨kd, rfl⟩ := Int.eq_ofNat_of_zero_le k0
    have hkd : kd < 7 := by omega
    have hN1 : 1 ≤ 1 + m1 := by omega
    have hN9 : 1 + m1 ≤ 9 := by omega
    refine ⟨by show 0 ≤ sizeLine; decide, fun lt hlt => ?_⟩
    refine ⟨_, rfl, _, rfl, kd, 1 + m1, rfl, hkd, hN1, hN9, fun d H' s' f2 f6 f0 => ⟨true, G.te kd hkd, fun _ x hx => ?_, fun z => nomatch z⟩⟩
    refine ⟨_, rfl, rfl, x, kd, rfl, hkd, rfl, ?_, fun l H5 s5 hl el => ?_⟩
    · by_cases e2 : kd = 2
      · obtain ⟨y, e, q⟩ := f2 e2
        exact .inr ⟨y, _, e, q⟩
      · by_cases e6 : kd = 6
        · obtain ⟨y, e, q⟩ := f6 e6
          exact .inr ⟨y, _, e, q⟩
        · exact .inl (f0 e2 e6)
    refine ⟨_, rfl, _, rfl, by show 1 ≤ sizeLine; decide, fun l2 hl2 => ?_⟩
    have s6 : Same H5 (upd H5 l2 (.lst [.int (kd : Int)])) := Same.new hl2
    have e6 : (upd H5 l2 (.lst [.int (kd : Int)])) l2 = some (.lst [.int (kd : Int)]) := upd_same
    generalize upd H5 l2 (.lst [.int (kd : Int)]) = H6 at s6 e6 ⊢
    obtain ⟨o1, o2⟩ := one_ok (kd : Int)
    refine ne_self (d := .list [.int (kd : Int)]) (.lst (SqL.of (s6 _ _ el)) (.cons (.int _) .nil)) (.lst (SqL.of e6) (.cons (.int _) .nil)) o1 o2 ⟨_, rfl, iteF ?_⟩
    -- the plan
    refine ⟨_, rfl, 2, 1 + m1, rfl, by decide, hN1, hN9, fun d2 H7 s7 g2 _ _ => ⟨true, te2, fun _ x2 hx2 => ?_, fun z => nomatch z⟩⟩
    obtain ⟨y2, rfl, ey2⟩ := g2 rfl
    refine ⟨_, rfl, rfl, rfl, y2, _, _, rfl, ey2, rfl, ?_⟩
    refine ⟨rfl, _, rfl, ?_⟩
    rw [decide_eq_true (show jv (some 1) = V.int 1 from rfl)]
    refine iteF ?_
    -- the text
    refine ⟨_, rfl, 6, 1 + m1, rfl, by decide, hN1, hN9, fun d3 H8 s8 _ g6 _ => ⟨true, te6, fun _ x3 hx3 => ?_, fun z => nomatch z⟩⟩
    obtain ⟨y3, rfl, ey3⟩ := g6 rfl
    refine ⟨_, rfl, rfl, rfl, y3, _, _, rfl, ey3, rfl, _, rfl, rfl, rfl, y3, _, _, rfl, ey3, rfl, by show 2 ≤ sizeLine; decide, fun p hp => ?_⟩
    have s9 : Same H8 (upd H8 p (.tup [.int ((2 : Nat) : Int), .int ((3 : Nat) : Int)])) := Same.new hp
    have e9 : (upd H8 p (.tup [.int ((2 : Nat) : Int), .int ((3 : Nat) : Int)])) p = some (.tup [.int ((2 : Nat) : Int), .int ((3 : Nat) : Int)]) := upd_same
    generalize upd H8 p (.tup [.int ((2 : Nat) : Int), .int ((3 : Nat) : Int)]) = H9 at s9 e9 ⊢
    refine ⟨by show 2 ≤ sizeLine; decide, fun q hq => ?_⟩
    have sq : Same H9 (upd H9 q (.tup [.int 2, .int 3])) := Same.new hq
    refine eq_self' (d := dS (2, 3)) (dp_S (SqT.of (sq _ _ e9))) (dp_S (i := 2) (j := 3) (SqT.of upd_same)) (dS_ok _) (by rw [dS_eqv, decide_eq_true rfl]) (k _)
end
end Hd
set_option maxHeartbeats 4000000
namespace Hd
open PySem PySem.Spec PyProof.Rows L2
abbrev s_HeapError_init : Stmt := inClass (top 3) 0
theorem sup_mk {prog : Program} {K : PySem.W.Frag} {fI HE cc cda : Addr} {oc kV dc pm ct ccl cl : Value} {od an cdd cld : Option Addr} {osl ccs csl : Array (Option Value)} {vs : Array Value} {file : Str} {tf : Tok} {cdD : ClassData}
    (tI : PySem.W.typeIn K (.ref fI) = some (.type "function"))
    (lI : K.lookup fI = some ⟨oc, od, .func (PySem.W.fnX "__init__" "HeapError.__init__" (defArgs s_HeapError_init) (defBody s_HeapError_init) (defScope s_HeapError_init) [("__class__", cc)] .none kV dc pm an (.ref cda) ct), osl⟩)
    (cI : PySem.W.codeIn K (.ref cda) "HeapError.__init__" = true) (lcda : K.lookup cda = some ⟨ccl, cdd, .fields vs, ccs⟩) (hvs : vs[2]? = some (.str file tf)) (hfile : ((prog.main.file : Str) == file) = true)
    (lcc : K.lookup cc = some ⟨cl, cld, .cell (some (.ref HE)), csl⟩) (hD : PySem.W.clsIn K HE = some cdD) (zs : PySem.W.nsIn K mainGlobals "super" = some none) (thr : PySem.W.nsIn K cStatics "thirdparty.any" = some none)
    (top : (prog.main.scope.names.lookup ("super" : Str)).isSome = false) : SupDef prog K fI HE :=
  ⟨⟨oc, od, an, defArgs s_HeapError_init, "HeapError.__init__", .none, kV, dc, pm, ct, cc, cda, osl, _, _, _, _, _, _, ccl, cl, cdd, cld, vs, ccs, csl, file, tf, cdD, lI, cI, rfl, rfl, fun v => rfl, fun L => ⟨_, rfl⟩, lcda, hvs, hfile, lcc, hD⟩, tI, zs, thr, top⟩
end Hd
set_option maxHeartbeats 8000000
namespace Hd
open PySem PySem.Spec PyProof.Rows L2
theorem all_mk {l : PySem.W.OpenLaw} {w : World} {K : PySem.W.Frag} {h : Heap} {mg : Str → Option Value} {fa : Addr} (X : K.In h) (G : h.Ns mainGlobals mg) (hfa : mg "law" = some (.ref fa))
    {HE f_HI cc cda : Addr} {ocI kVI dcI pmI ctI ccl cl : Value} {odI anI cdd cld : Option Addr} {oslI ccs csl : Array (Option Value)} {vs : Array Value} {file : Str} {tf : Tok} {cdD : ClassData}
    {A_BadHeaps N_BadHeaps : Addr} {nm_BadHeaps q_BadHeaps : Str} {bs_BadHeaps sub_BadHeaps : List Value} {sn_BadHeaps : List Str} {ab_BadHeaps : Bool} {col_BadHeaps : Option Bool} {dd_BadHeaps : Option Addr} {m0_BadHeaps m1_BadHeaps m2_BadHeaps m3_BadHeaps m5_BadHeaps : Option Value}
    (x_BadHeaps : PySem.W.nsIn K mainGlobals "BadHeaps" = some (some (.ref A_BadHeaps)))
    (xL_BadHeaps : K.lookup A_BadHeaps = some (excClassObj nm_BadHeaps q_BadHeaps A_BadHeaps N_BadHeaps bs_BadHeaps [.ref HE, .type "ValueError", .type "Exception", .type "BaseException", .type "object"] true sn_BadHeaps sub_BadHeaps ab_BadHeaps col_BadHeaps dd_BadHeaps m0_BadHeaps m1_BadHeaps m2_BadHeaps m3_BadHeaps m5_BadHeaps "ValueError.__new__"))
    (iHI_BadHeaps : PySem.W.findIn K (.ref A_BadHeaps) "__init__" = some (some (.ref f_HI)))
    (tI : PySem.W.typeIn K (.ref f_HI) = some (.type "function"))
    (lI : K.lookup f_HI = some ⟨ocI, odI, .func (PySem.W.fnX "__init__" "HeapError.__init__" (defArgs s_HeapError_init) (defBody s_HeapError_init) (defScope s_HeapError_init) [("__class__", cc)] .none kVI dcI pmI anI (.ref cda) ctI), oslI⟩)
    (cI : PySem.W.codeIn K (.ref cda) "HeapError.__init__" = true)
    (lcda : K.lookup cda = some ⟨ccl, cdd, .fields vs, ccs⟩)
    (hvs : vs[2]? = some (.str file tf))
    (hfile : ((l.prog.main.file : Str) == file) = true)
    (lcc : K.lookup cc = some ⟨cl, cld, .cell (some (.ref HE)), csl⟩)
    (hD : PySem.W.clsIn K HE = some cdD)
    (thr : PySem.W.nsIn K cStatics "thirdparty.any" = some none)
    (topN : (l.prog.main.scope.names.lookup ("super" : Str)).isSome = false)
    (z_super : PySem.W.nsIn K mainGlobals "super" = some none)
    (supI_BadHeaps : PySem.W.ks_superIn K A_BadHeaps HE "__init__" = some (some (.builtin "ValueError.__init__")))
    (mroI_BadHeaps : PySem.W.mroIn K A_BadHeaps (.ref HE) = some true)
    (veI_BadHeaps : PySem.W.subIn K (.ref A_BadHeaps) (.type "ValueError") = some true)
    (xinI_BadHeaps : PySem.W.excInitIn K A_BadHeaps [.type "ValueError", .type "Exception", .type "BaseException", .type "object"] "ValueError.__new__" = true)
    (kC_BadHeaps : PySem.W.keepIn K (.ref A_BadHeaps) = true)
    (eC_BadHeaps : PySem.W.subIn K (.ref A_BadHeaps) (.type "BaseException") = some true)
    (tC_BadHeaps : PySem.W.typeIn K (.ref A_BadHeaps) = some (.type "type"))
    (iC_BadHeaps : PySem.W.isClsIn K A_BadHeaps = true)
    (sC_BadHeaps : PySem.W.subIn K (.ref A_BadHeaps) (.ref A_BadHeaps) = some true)
    {A_BadStep N_BadStep : Addr} {nm_BadStep q_BadStep : Str} {bs_BadStep sub_BadStep : List Value} {sn_BadStep : List Str} {ab_BadStep : Bool} {col_BadStep : Option Bool} {dd_BadStep : Option Addr} {m0_BadStep m1_BadStep m2_BadStep m3_BadStep m5_BadStep : Option Value}
    (x_BadStep : PySem.W.nsIn K mainGlobals "BadStep" = some (some (.ref A_BadStep)))
    (xL_BadStep : K.lookup A_BadStep = some (excClassObj nm_BadStep q_BadStep A_BadStep N_BadStep bs_BadStep [.ref HE, .type "ValueError", .type "Exception", .type "BaseException", .type "object"] true sn_BadStep sub_BadStep ab_BadStep col_BadStep dd_BadStep m0_BadStep m1_BadStep m2_BadStep m3_BadStep m5_BadStep "ValueError.__new__"))
    (iHI_BadStep : PySem.W.findIn K (.ref A_BadStep) "__init__" = some (some (.ref f_HI)))
    (supI_BadStep : PySem.W.ks_superIn K A_BadStep HE "__init__" = some (some (.builtin "ValueError.__init__")))
    (mroI_BadStep : PySem.W.mroIn K A_BadStep (.ref HE) = some true)
    (veI_BadStep : PySem.W.subIn K (.ref A_BadStep) (.type "ValueError") = some true)
    (xinI_BadStep : PySem.W.excInitIn K A_BadStep [.type "ValueError", .type "Exception", .type "BaseException", .type "object"] "ValueError.__new__" = true)
    (kC_BadStep : PySem.W.keepIn K (.ref A_BadStep) = true)
    (eC_BadStep : PySem.W.subIn K (.ref A_BadStep) (.type "BaseException") = some true)
    (tC_BadStep : PySem.W.typeIn K (.ref A_BadStep) = some (.type "type"))
    (iC_BadStep : PySem.W.isClsIn K A_BadStep = true)
    (sC_BadStep : PySem.W.subIn K (.ref A_BadStep) (.ref A_BadStep) = some true)
    {A_BadMany N_BadMany : Addr} {nm_BadMany q_BadMany : Str} {bs_BadMany sub_BadMany : List Value} {sn_BadMany : List Str} {ab_BadMany : Bool} {col_BadMany : Option Bool} {dd_BadMany : Option Addr} {m0_BadMany m1_BadMany m2_BadMany m3_BadMany m5_BadMany : Option Value}
    (x_BadMany : PySem.W.nsIn K mainGlobals "BadMany" = some (some (.ref A_BadMany)))
    (xL_BadMany : K.lookup A_BadMany = some (excClassObj nm_BadMany q_BadMany A_BadMany N_BadMany bs_BadMany [.ref HE, .type "ValueError", .type "Exception", .type "BaseException", .type "object"] true sn_BadMany sub_BadMany ab_BadMany col_BadMany dd_BadMany m0_BadMany m1_BadMany m2_BadMany m3_BadMany m5_BadMany "ValueError.__new__"))
    (iHI_BadMany : PySem.W.findIn K (.ref A_BadMany) "__init__" = some (some (.ref f_HI)))
    (supI_BadMany : PySem.W.ks_superIn K A_BadMany HE "__init__" = some (some (.builtin "ValueError.__init__")))
    (mroI_BadMany : PySem.W.mroIn K A_BadMany (.ref HE) = some true)
    (veI_BadMany : PySem.W.subIn K (.ref A_BadMany) (.type "ValueError") = some true)
    (xinI_BadMany : PySem.W.excInitIn K A_BadMany [.type "ValueError", .type "Exception", .type "BaseException", .type "object"] "ValueError.__new__" = true)
    (kC_BadMany : PySem.W.keepIn K (.ref A_BadMany) = true)
    (eC_BadMany : PySem.W.subIn K (.ref A_BadMany) (.type "BaseException") = some true)
    (tC_BadMany : PySem.W.typeIn K (.ref A_BadMany) = some (.type "type"))
    (iC_BadMany : PySem.W.isClsIn K A_BadMany = true)
    (sC_BadMany : PySem.W.subIn K (.ref A_BadMany) (.ref A_BadMany) = some true)
    {A_TooGreat N_TooGreat : Addr} {nm_TooGreat q_TooGreat : Str} {bs_TooGreat sub_TooGreat : List Value} {sn_TooGreat : List Str} {ab_TooGreat : Bool} {col_TooGreat : Option Bool} {dd_TooGreat : Option Addr} {m0_TooGreat m1_TooGreat m2_TooGreat m3_TooGreat m5_TooGreat : Option Value}
    (x_TooGreat : PySem.W.nsIn K mainGlobals "TooGreat" = some (some (.ref A_TooGreat)))
    (xL_TooGreat : K.lookup A_TooGreat = some (excClassObj nm_TooGreat q_TooGreat A_TooGreat N_TooGreat bs_TooGreat [.ref HE, .type "ValueError", .type "Exception", .type "BaseException", .type "object"] true sn_TooGreat sub_TooGreat ab_TooGreat col_TooGreat dd_TooGreat m0_TooGreat m1_TooGreat m2_TooGreat m3_TooGreat m5_TooGreat "ValueError.__new__"))
    (iHI_TooGreat : PySem.W.findIn K (.ref A_TooGreat) "__init__" = some (some (.ref f_HI)))
    (supI_TooGreat : PySem.W.ks_superIn K A_TooGreat HE "__init__" = some (some (.builtin "ValueError.__init__")))
    (mroI_TooGreat : PySem.W.mroIn K A_TooGreat (.ref HE) = some true)
    (veI_TooGreat : PySem.W.subIn K (.ref A_TooGreat) (.type "ValueError") = some true)
    (xinI_TooGreat : PySem.W.excInitIn K A_TooGreat [.type "ValueError", .type "Exception", .type "BaseException", .type "object"] "ValueError.__new__" = true)
    (kC_TooGreat : PySem.W.keepIn K (.ref A_TooGreat) = true)
    (eC_TooGreat : PySem.W.subIn K (.ref A_TooGreat) (.type "BaseException") = some true)
    (tC_TooGreat : PySem.W.typeIn K (.ref A_TooGreat) = some (.type "type"))
    (iC_TooGreat : PySem.W.isClsIn K A_TooGreat = true)
    (sC_TooGreat : PySem.W.subIn K (.ref A_TooGreat) (.ref A_TooGreat) = some true)
    {A_Full N_Full : Addr} {nm_Full q_Full : Str} {bs_Full sub_Full : List Value} {sn_Full : List Str} {ab_Full : Bool} {col_Full : Option Bool} {dd_Full : Option Addr} {m0_Full m1_Full m2_Full m3_Full m5_Full : Option Value}
    (x_Full : PySem.W.nsIn K mainGlobals "Full" = some (some (.ref A_Full)))
    (xL_Full : K.lookup A_Full = some (excClassObj nm_Full q_Full A_Full N_Full bs_Full [.ref HE, .type "ValueError", .type "Exception", .type "BaseException", .type "object"] true sn_Full sub_Full ab_Full col_Full dd_Full m0_Full m1_Full m2_Full m3_Full m5_Full "ValueError.__new__"))
    (iHI_Full : PySem.W.findIn K (.ref A_Full) "__init__" = some (some (.ref f_HI)))
    (supI_Full : PySem.W.ks_superIn K A_Full HE "__init__" = some (some (.builtin "ValueError.__init__")))
    (mroI_Full : PySem.W.mroIn K A_Full (.ref HE) = some true)
    (veI_Full : PySem.W.subIn K (.ref A_Full) (.type "ValueError") = some true)
    (xinI_Full : PySem.W.excInitIn K A_Full [.type "ValueError", .type "Exception", .type "BaseException", .type "object"] "ValueError.__new__" = true)
    (kC_Full : PySem.W.keepIn K (.ref A_Full) = true)
    (eC_Full : PySem.W.subIn K (.ref A_Full) (.type "BaseException") = some true)
    (tC_Full : PySem.W.typeIn K (.ref A_Full) = some (.type "type"))
    (iC_Full : PySem.W.isClsIn K A_Full = true)
    (sC_Full : PySem.W.subIn K (.ref A_Full) (.ref A_Full) = some true)
    {A_BadPlan N_BadPlan HE_BadPlan : Addr} {nm_BadPlan q_BadPlan : Str} {bs_BadPlan sub_BadPlan : List Value} {sn_BadPlan : List Str} {ab_BadPlan : Bool} {col_BadPlan : Option Bool} {dd_BadPlan : Option Addr} {m0_BadPlan m1_BadPlan m2_BadPlan m3_BadPlan m5_BadPlan : Option Value}
    (x_BadPlan : PySem.W.nsIn K mainGlobals "BadPlan" = some (some (.ref A_BadPlan)))
    (xL_BadPlan : K.lookup A_BadPlan = some (excClassObj nm_BadPlan q_BadPlan A_BadPlan N_BadPlan bs_BadPlan [.ref HE_BadPlan, .type "ValueError", .type "Exception", .type "BaseException", .type "object"] true sn_BadPlan sub_BadPlan ab_BadPlan col_BadPlan dd_BadPlan m0_BadPlan m1_BadPlan m2_BadPlan m3_BadPlan m5_BadPlan "ValueError.__new__"))
    (sa_BadPlan : PySem.W.findIn K (.ref A_BadPlan) "__setattr__" = some (some (.builtin "object.__setattr__")))
    (ga_BadPlan : PySem.W.findIn K (.ref A_BadPlan) "__getattribute__" = some (some (.builtin "BaseException.__getattribute__")))
    (gg_BadPlan : PySem.W.findIn K (.ref A_BadPlan) "__getattr__" = some none)
    (nb_BadPlan_index : PySem.W.findIn K (.ref A_BadPlan) "index" = some none)
    (kC_BadPlan : PySem.W.keepIn K (.ref A_BadPlan) = true)
    (eC_BadPlan : PySem.W.subIn K (.ref A_BadPlan) (.type "BaseException") = some true)
    (tC_BadPlan : PySem.W.typeIn K (.ref A_BadPlan) = some (.type "type"))
    (hC_BadPlan : PySem.W.hasDictIn K A_BadPlan = true)
    (iC_BadPlan : PySem.W.isClsIn K A_BadPlan = true)
    (sC_BadPlan : PySem.W.subIn K (.ref A_BadPlan) (.ref A_BadPlan) = some true)
    {A_InvalidText N_InvalidText HE_InvalidText : Addr} {nm_InvalidText q_InvalidText : Str} {bs_InvalidText sub_InvalidText : List Value} {sn_InvalidText : List Str} {ab_InvalidText : Bool} {col_InvalidText : Option Bool} {dd_InvalidText : Option Addr} {m0_InvalidText m1_InvalidText m2_InvalidText m3_InvalidText m5_InvalidText : Option Value}
    (x_InvalidText : PySem.W.nsIn K mainGlobals "InvalidText" = some (some (.ref A_InvalidText)))
    (xL_InvalidText : K.lookup A_InvalidText = some (excClassObj nm_InvalidText q_InvalidText A_InvalidText N_InvalidText bs_InvalidText [.ref HE_InvalidText, .type "ValueError", .type "Exception", .type "BaseException", .type "object"] true sn_InvalidText sub_InvalidText ab_InvalidText col_InvalidText dd_InvalidText m0_InvalidText m1_InvalidText m2_InvalidText m3_InvalidText m5_InvalidText "ValueError.__new__"))
    (sa_InvalidText : PySem.W.findIn K (.ref A_InvalidText) "__setattr__" = some (some (.builtin "object.__setattr__")))
    (ga_InvalidText : PySem.W.findIn K (.ref A_InvalidText) "__getattribute__" = some (some (.builtin "BaseException.__getattribute__")))
    (gg_InvalidText : PySem.W.findIn K (.ref A_InvalidText) "__getattr__" = some none)
    (nb_InvalidText_line : PySem.W.findIn K (.ref A_InvalidText) "line" = some none)
    (nb_InvalidText_word : PySem.W.findIn K (.ref A_InvalidText) "word" = some none)
    (kC_InvalidText : PySem.W.keepIn K (.ref A_InvalidText) = true)
    (eC_InvalidText : PySem.W.subIn K (.ref A_InvalidText) (.type "BaseException") = some true)
    (tC_InvalidText : PySem.W.typeIn K (.ref A_InvalidText) = some (.type "type"))
    (hC_InvalidText : PySem.W.hasDictIn K A_InvalidText = true)
    (iC_InvalidText : PySem.W.isClsIn K A_InvalidText = true)
    (sC_InvalidText : PySem.W.subIn K (.ref A_InvalidText) (.ref A_InvalidText) = some true)
    (x_HeapError : PySem.W.nsIn K mainGlobals "HeapError" = some (some (.ref HE)))
    (x_gcd : PySem.W.nsIn K mainGlobals "gcd" = some (some (.builtin "math.gcd")))
    (z_ValueError : PySem.W.nsIn K mainGlobals "ValueError" = some none)
    (eC_HE : PySem.W.subIn K (.ref HE) (.type "BaseException") = some true)
    (hC_HE : PySem.W.hasDictIn K HE = true)
    (tC_HE : PySem.W.typeIn K (.ref HE) = some (.type "type"))
    (hn_cls : PySem.W.specialIn K (.builtin "object.__class__") "__get__" = some (some (.builtin "getset_descriptor.__get__")))
    (ht_cls : PySem.W.takesIn K (.builtin "object.__class__") = some true)
    (sH_BadHeaps : PySem.W.subIn K (.ref A_BadHeaps) (.ref HE) = some true)
    (ga_BadHeaps : PySem.W.findIn K (.ref A_BadHeaps) "__getattribute__" = some (some (.builtin "BaseException.__getattribute__")))
    (gg_BadHeaps : PySem.W.findIn K (.ref A_BadHeaps) "__getattr__" = some none)
    (hC_BadHeaps : PySem.W.hasDictIn K A_BadHeaps = true)
    (ha_BadHeaps : PySem.W.findIn K (.ref A_BadHeaps) "__class__" = some (some (.builtin "object.__class__")))
    (hm_BadHeaps : PySem.W.mroIn K A_BadHeaps (.type "object") = some true)
    (kv_BadHeaps : PySem.W.kitOne K (.ref A_BadHeaps) (.type "ValueError") = some true)
    (kk_BadHeaps_BadHeaps : PySem.W.kitOne K (.ref A_BadHeaps) (.ref A_BadHeaps) = some true)
    (kk_BadHeaps_BadStep : PySem.W.kitOne K (.ref A_BadHeaps) (.ref A_BadStep) = some false)
    (kk_BadHeaps_BadPlan : PySem.W.kitOne K (.ref A_BadHeaps) (.ref A_BadPlan) = some false)
    (kk_BadHeaps_BadMany : PySem.W.kitOne K (.ref A_BadHeaps) (.ref A_BadMany) = some false)
    (kk_BadHeaps_TooGreat : PySem.W.kitOne K (.ref A_BadHeaps) (.ref A_TooGreat) = some false)
    (kk_BadHeaps_Full : PySem.W.kitOne K (.ref A_BadHeaps) (.ref A_Full) = some false)
    (kk_BadHeaps_InvalidText : PySem.W.kitOne K (.ref A_BadHeaps) (.ref A_InvalidText) = some false)
    (sH_BadStep : PySem.W.subIn K (.ref A_BadStep) (.ref HE) = some true)
    (ga_BadStep : PySem.W.findIn K (.ref A_BadStep) "__getattribute__" = some (some (.builtin "BaseException.__getattribute__")))
    (gg_BadStep : PySem.W.findIn K (.ref A_BadStep) "__getattr__" = some none)
    (hC_BadStep : PySem.W.hasDictIn K A_BadStep = true)
    (ha_BadStep : PySem.W.findIn K (.ref A_BadStep) "__class__" = some (some (.builtin "object.__class__")))
    (hm_BadStep : PySem.W.mroIn K A_BadStep (.type "object") = some true)
    (kv_BadStep : PySem.W.kitOne K (.ref A_BadStep) (.type "ValueError") = some true)
    (kk_BadStep_BadHeaps : PySem.W.kitOne K (.ref A_BadStep) (.ref A_BadHeaps) = some false)
    (kk_BadStep_BadStep : PySem.W.kitOne K (.ref A_BadStep) (.ref A_BadStep) = some true)
    (kk_BadStep_BadPlan : PySem.W.kitOne K (.ref A_BadStep) (.ref A_BadPlan) = some false)
    (kk_BadStep_BadMany : PySem.W.kitOne K (.ref A_BadStep) (.ref A_BadMany) = some false)
    (kk_BadStep_TooGreat : PySem.W.kitOne K (.ref A_BadStep) (.ref A_TooGreat) = some false)
    (kk_BadStep_Full : PySem.W.kitOne K (.ref A_BadStep) (.ref A_Full) = some false)
    (kk_BadStep_InvalidText : PySem.W.kitOne K (.ref A_BadStep) (.ref A_InvalidText) = some false)
    (sH_BadPlan : PySem.W.subIn K (.ref A_BadPlan) (.ref HE) = some true)
    (ha_BadPlan : PySem.W.findIn K (.ref A_BadPlan) "__class__" = some (some (.builtin "object.__class__")))
    (hm_BadPlan : PySem.W.mroIn K A_BadPlan (.type "object") = some true)
    (kv_BadPlan : PySem.W.kitOne K (.ref A_BadPlan) (.type "ValueError") = some true)
    (kk_BadPlan_BadHeaps : PySem.W.kitOne K (.ref A_BadPlan) (.ref A_BadHeaps) = some false)
    (kk_BadPlan_BadStep : PySem.W.kitOne K (.ref A_BadPlan) (.ref A_BadStep) = some false)
    (kk_BadPlan_BadPlan : PySem.W.kitOne K (.ref A_BadPlan) (.ref A_BadPlan) = some true)
    (kk_BadPlan_BadMany : PySem.W.kitOne K (.ref A_BadPlan) (.ref A_BadMany) = some false)
    (kk_BadPlan_TooGreat : PySem.W.kitOne K (.ref A_BadPlan) (.ref A_TooGreat) = some false)
    (kk_BadPlan_Full : PySem.W.kitOne K (.ref A_BadPlan) (.ref A_Full) = some false)
    (kk_BadPlan_InvalidText : PySem.W.kitOne K (.ref A_BadPlan) (.ref A_InvalidText) = some false)
    (sH_BadMany : PySem.W.subIn K (.ref A_BadMany) (.ref HE) = some true)
    (ga_BadMany : PySem.W.findIn K (.ref A_BadMany) "__getattribute__" = some (some (.builtin "BaseException.__getattribute__")))
    (gg_BadMany : PySem.W.findIn K (.ref A_BadMany) "__getattr__" = some none)
    (hC_BadMany : PySem.W.hasDictIn K A_BadMany = true)
    (ha_BadMany : PySem.W.findIn K (.ref A_BadMany) "__class__" = some (some (.builtin "object.__class__")))
    (hm_BadMany : PySem.W.mroIn K A_BadMany (.type "object") = some true)
    (kv_BadMany : PySem.W.kitOne K (.ref A_BadMany) (.type "ValueError") = some true)
    (kk_BadMany_BadHeaps : PySem.W.kitOne K (.ref A_BadMany) (.ref A_BadHeaps) = some false)
    (kk_BadMany_BadStep : PySem.W.kitOne K (.ref A_BadMany) (.ref A_BadStep) = some false)
    (kk_BadMany_BadPlan : PySem.W.kitOne K (.ref A_BadMany) (.ref A_BadPlan) = some false)
    (kk_BadMany_BadMany : PySem.W.kitOne K (.ref A_BadMany) (.ref A_BadMany) = some true)
    (kk_BadMany_TooGreat : PySem.W.kitOne K (.ref A_BadMany) (.ref A_TooGreat) = some false)
    (kk_BadMany_Full : PySem.W.kitOne K (.ref A_BadMany) (.ref A_Full) = some false)
    (kk_BadMany_InvalidText : PySem.W.kitOne K (.ref A_BadMany) (.ref A_InvalidText) = some false)
    (sH_TooGreat : PySem.W.subIn K (.ref A_TooGreat) (.ref HE) = some true)
    (ga_TooGreat : PySem.W.findIn K (.ref A_TooGreat) "__getattribute__" = some (some (.builtin "BaseException.__getattribute__")))
    (gg_TooGreat : PySem.W.findIn K (.ref A_TooGreat) "__getattr__" = some none)
    (hC_TooGreat : PySem.W.hasDictIn K A_TooGreat = true)
    (ha_TooGreat : PySem.W.findIn K (.ref A_TooGreat) "__class__" = some (some (.builtin "object.__class__")))
    (hm_TooGreat : PySem.W.mroIn K A_TooGreat (.type "object") = some true)
    (kv_TooGreat : PySem.W.kitOne K (.ref A_TooGreat) (.type "ValueError") = some true)
    (kk_TooGreat_BadHeaps : PySem.W.kitOne K (.ref A_TooGreat) (.ref A_BadHeaps) = some false)
    (kk_TooGreat_BadStep : PySem.W.kitOne K (.ref A_TooGreat) (.ref A_BadStep) = some false)
    (kk_TooGreat_BadPlan : PySem.W.kitOne K (.ref A_TooGreat) (.ref A_BadPlan) = some false)
    (kk_TooGreat_BadMany : PySem.W.kitOne K (.ref A_TooGreat) (.ref A_BadMany) = some false)
    (kk_TooGreat_TooGreat : PySem.W.kitOne K (.ref A_TooGreat) (.ref A_TooGreat) = some true)
    (kk_TooGreat_Full : PySem.W.kitOne K (.ref A_TooGreat) (.ref A_Full) = some false)
    (kk_TooGreat_InvalidText : PySem.W.kitOne K (.ref A_TooGreat) (.ref A_InvalidText) = some false)
    (sH_Full : PySem.W.subIn K (.ref A_Full) (.ref HE) = some true)
    (ga_Full : PySem.W.findIn K (.ref A_Full) "__getattribute__" = some (some (.builtin "BaseException.__getattribute__")))
    (gg_Full : PySem.W.findIn K (.ref A_Full) "__getattr__" = some none)
    (hC_Full : PySem.W.hasDictIn K A_Full = true)
    (ha_Full : PySem.W.findIn K (.ref A_Full) "__class__" = some (some (.builtin "object.__class__")))
    (hm_Full : PySem.W.mroIn K A_Full (.type "object") = some true)
    (kv_Full : PySem.W.kitOne K (.ref A_Full) (.type "ValueError") = some true)
    (kk_Full_BadHeaps : PySem.W.kitOne K (.ref A_Full) (.ref A_BadHeaps) = some false)
    (kk_Full_BadStep : PySem.W.kitOne K (.ref A_Full) (.ref A_BadStep) = some false)
    (kk_Full_BadPlan : PySem.W.kitOne K (.ref A_Full) (.ref A_BadPlan) = some false)
    (kk_Full_BadMany : PySem.W.kitOne K (.ref A_Full) (.ref A_BadMany) = some false)
    (kk_Full_TooGreat : PySem.W.kitOne K (.ref A_Full) (.ref A_TooGreat) = some false)
    (kk_Full_Full : PySem.W.kitOne K (.ref A_Full) (.ref A_Full) = some true)
    (kk_Full_InvalidText : PySem.W.kitOne K (.ref A_Full) (.ref A_InvalidText) = some false)
    (sH_InvalidText : PySem.W.subIn K (.ref A_InvalidText) (.ref HE) = some true)
    (ha_InvalidText : PySem.W.findIn K (.ref A_InvalidText) "__class__" = some (some (.builtin "object.__class__")))
    (hm_InvalidText : PySem.W.mroIn K A_InvalidText (.type "object") = some true)
    (kv_InvalidText : PySem.W.kitOne K (.ref A_InvalidText) (.type "ValueError") = some true)
    (kk_InvalidText_BadHeaps : PySem.W.kitOne K (.ref A_InvalidText) (.ref A_BadHeaps) = some false)
    (kk_InvalidText_BadStep : PySem.W.kitOne K (.ref A_InvalidText) (.ref A_BadStep) = some false)
    (kk_InvalidText_BadPlan : PySem.W.kitOne K (.ref A_InvalidText) (.ref A_BadPlan) = some false)
    (kk_InvalidText_BadMany : PySem.W.kitOne K (.ref A_InvalidText) (.ref A_BadMany) = some false)
    (kk_InvalidText_TooGreat : PySem.W.kitOne K (.ref A_InvalidText) (.ref A_TooGreat) = some false)
    (kk_InvalidText_Full : PySem.W.kitOne K (.ref A_InvalidText) (.ref A_Full) = some false)
    (kk_InvalidText_InvalidText : PySem.W.kitOne K (.ref A_InvalidText) (.ref A_InvalidText) = some true)
    {A_Desk : Addr}
    (x_Desk : PySem.W.nsIn K mainGlobals "Desk" = some (some (.ref A_Desk)))
    (pg_Desk : PySem.W.plainGet K A_Desk Str.empty = true) (hd_Desk : PySem.W.hasDictIn K A_Desk = true) (po_Desk : PySem.W.plainOver K A_Desk = true)
    (sa_Desk : PySem.W.findIn K (.ref A_Desk) "__setattr__" = some (some (.builtin "object.__setattr__"))) (mk_Desk : PySem.W.makesIn K A_Desk = true) (kc_Desk : PySem.W.keepIn K (.ref A_Desk) = true)
    (na_Desk__stands : PySem.W.findIn K (.ref A_Desk) "_stands" = some none)
    (na_Desk__steps : PySem.W.findIn K (.ref A_Desk) "_steps" = some none)
    {od_is_integer an_is_integer : Option Addr} {sl_is_integer : Array (Option Value)} {oc_is_integer kV_is_integer dc_is_integer pm_is_integer cd_is_integer ct_is_integer : Value} {f_is_integer : Addr}
    (a_is_integer : PySem.W.nsIn K mainGlobals "is_integer" = some (some (.ref f_is_integer)))
    (l_is_integer : K.lookup f_is_integer = some ⟨oc_is_integer, od_is_integer, .func (PySem.W.fnOf "is_integer" "is_integer" (defArgs s_is_integer) (defBody s_is_integer) (defScope s_is_integer) .none kV_is_integer dc_is_integer pm_is_integer an_is_integer cd_is_integer ct_is_integer), sl_is_integer⟩)
    (c_is_integer : PySem.W.codeIn K cd_is_integer "is_integer" = true) (k_is_integer : PySem.W.keepIn K (.ref f_is_integer) = true)
    {od_is_heaps an_is_heaps : Option Addr} {sl_is_heaps : Array (Option Value)} {oc_is_heaps kV_is_heaps dc_is_heaps pm_is_heaps cd_is_heaps ct_is_heaps : Value} {f_is_heaps : Addr}
    (a_is_heaps : PySem.W.nsIn K mainGlobals "is_heaps" = some (some (.ref f_is_heaps)))
    (l_is_heaps : K.lookup f_is_heaps = some ⟨oc_is_heaps, od_is_heaps, .func (PySem.W.fnOf "is_heaps" "is_heaps" (defArgs s_is_heaps) (defBody s_is_heaps) (defScope s_is_heaps) .none kV_is_heaps dc_is_heaps pm_is_heaps an_is_heaps cd_is_heaps ct_is_heaps), sl_is_heaps⟩)
    (c_is_heaps : PySem.W.codeIn K cd_is_heaps "is_heaps" = true) (k_is_heaps : PySem.W.keepIn K (.ref f_is_heaps) = true)
    {od_check_heaps an_check_heaps : Option Addr} {sl_check_heaps : Array (Option Value)} {oc_check_heaps kV_check_heaps dc_check_heaps pm_check_heaps cd_check_heaps ct_check_heaps : Value} {f_check_heaps : Addr}
    (a_check_heaps : PySem.W.nsIn K mainGlobals "check_heaps" = some (some (.ref f_check_heaps)))
    (l_check_heaps : K.lookup f_check_heaps = some ⟨oc_check_heaps, od_check_heaps, .func (PySem.W.fnOf "check_heaps" "check_heaps" (defArgs s_check_heaps) (defBody s_check_heaps) (defScope s_check_heaps) .none kV_check_heaps dc_check_heaps pm_check_heaps an_check_heaps cd_check_heaps ct_check_heaps), sl_check_heaps⟩)
    (c_check_heaps : PySem.W.codeIn K cd_check_heaps "check_heaps" = true) (k_check_heaps : PySem.W.keepIn K (.ref f_check_heaps) = true)
    {od_is_pair_of an_is_pair_of : Option Addr} {sl_is_pair_of : Array (Option Value)} {oc_is_pair_of kV_is_pair_of dc_is_pair_of pm_is_pair_of cd_is_pair_of ct_is_pair_of : Value} {f_is_pair_of : Addr}
    (a_is_pair_of : PySem.W.nsIn K mainGlobals "is_pair_of" = some (some (.ref f_is_pair_of)))
    (l_is_pair_of : K.lookup f_is_pair_of = some ⟨oc_is_pair_of, od_is_pair_of, .func (PySem.W.fnOf "is_pair_of" "is_pair_of" (defArgs s_is_pair_of) (defBody s_is_pair_of) (defScope s_is_pair_of) .none kV_is_pair_of dc_is_pair_of pm_is_pair_of an_is_pair_of cd_is_pair_of ct_is_pair_of), sl_is_pair_of⟩)
    (c_is_pair_of : PySem.W.codeIn K cd_is_pair_of "is_pair_of" = true) (k_is_pair_of : PySem.W.keepIn K (.ref f_is_pair_of) = true)
    {od_can_be_made an_can_be_made : Option Addr} {sl_can_be_made : Array (Option Value)} {oc_can_be_made kV_can_be_made dc_can_be_made pm_can_be_made cd_can_be_made ct_can_be_made : Value} {f_can_be_made : Addr}
    (a_can_be_made : PySem.W.nsIn K mainGlobals "can_be_made" = some (some (.ref f_can_be_made)))
    (l_can_be_made : K.lookup f_can_be_made = some ⟨oc_can_be_made, od_can_be_made, .func (PySem.W.fnOf "can_be_made" "can_be_made" (defArgs s_can_be_made) (defBody s_can_be_made) (defScope s_can_be_made) .none kV_can_be_made dc_can_be_made pm_can_be_made an_can_be_made cd_can_be_made ct_can_be_made), sl_can_be_made⟩)
    (c_can_be_made : PySem.W.codeIn K cd_can_be_made "can_be_made" = true) (k_can_be_made : PySem.W.keepIn K (.ref f_can_be_made) = true)
    {od_pairs_of an_pairs_of : Option Addr} {sl_pairs_of : Array (Option Value)} {oc_pairs_of kV_pairs_of dc_pairs_of pm_pairs_of cd_pairs_of ct_pairs_of : Value} {f_pairs_of : Addr}
    (a_pairs_of : PySem.W.nsIn K mainGlobals "pairs_of" = some (some (.ref f_pairs_of)))
    (l_pairs_of : K.lookup f_pairs_of = some ⟨oc_pairs_of, od_pairs_of, .func (PySem.W.fnOf "pairs_of" "pairs_of" (defArgs s_pairs_of) (defBody s_pairs_of) (defScope s_pairs_of) .none kV_pairs_of dc_pairs_of pm_pairs_of an_pairs_of cd_pairs_of ct_pairs_of), sl_pairs_of⟩)
    (c_pairs_of : PySem.W.codeIn K cd_pairs_of "pairs_of" = true) (k_pairs_of : PySem.W.keepIn K (.ref f_pairs_of) = true)
    {od_steps_from an_steps_from : Option Addr} {sl_steps_from : Array (Option Value)} {oc_steps_from kV_steps_from dc_steps_from pm_steps_from cd_steps_from ct_steps_from : Value} {f_steps_from : Addr}
    (a_steps_from : PySem.W.nsIn K mainGlobals "steps_from" = some (some (.ref f_steps_from)))
    (l_steps_from : K.lookup f_steps_from = some ⟨oc_steps_from, od_steps_from, .func (PySem.W.fnOf "steps_from" "steps_from" (defArgs s_steps_from) (defBody s_steps_from) (defScope s_steps_from) .none kV_steps_from dc_steps_from pm_steps_from an_steps_from cd_steps_from ct_steps_from), sl_steps_from⟩)
    (c_steps_from : PySem.W.codeIn K cd_steps_from "steps_from" = true) (k_steps_from : PySem.W.keepIn K (.ref f_steps_from) = true)
    {od_shifted an_shifted : Option Addr} {sl_shifted : Array (Option Value)} {oc_shifted kV_shifted dc_shifted pm_shifted cd_shifted ct_shifted : Value} {f_shifted : Addr}
    (a_shifted : PySem.W.nsIn K mainGlobals "shifted" = some (some (.ref f_shifted)))
    (l_shifted : K.lookup f_shifted = some ⟨oc_shifted, od_shifted, .func (PySem.W.fnOf "shifted" "shifted" (defArgs s_shifted) (defBody s_shifted) (defScope s_shifted) .none kV_shifted dc_shifted pm_shifted an_shifted cd_shifted ct_shifted), sl_shifted⟩)
    (c_shifted : PySem.W.codeIn K cd_shifted "shifted" = true) (k_shifted : PySem.W.keepIn K (.ref f_shifted) = true)
    {od_behind an_behind : Option Addr} {sl_behind : Array (Option Value)} {oc_behind kV_behind dc_behind pm_behind cd_behind ct_behind : Value} {f_behind : Addr}
    (a_behind : PySem.W.nsIn K mainGlobals "behind" = some (some (.ref f_behind)))
    (l_behind : K.lookup f_behind = some ⟨oc_behind, od_behind, .func (PySem.W.fnOf "behind" "behind" (defArgs s_behind) (defBody s_behind) (defScope s_behind) .none kV_behind dc_behind pm_behind an_behind cd_behind ct_behind), sl_behind⟩)
    (c_behind : PySem.W.codeIn K cd_behind "behind" = true) (k_behind : PySem.W.keepIn K (.ref f_behind) = true)
    {od_check_step an_check_step : Option Addr} {sl_check_step : Array (Option Value)} {oc_check_step kV_check_step dc_check_step pm_check_step cd_check_step ct_check_step : Value} {f_check_step : Addr}
    (a_check_step : PySem.W.nsIn K mainGlobals "check_step" = some (some (.ref f_check_step)))
    (l_check_step : K.lookup f_check_step = some ⟨oc_check_step, od_check_step, .func (PySem.W.fnOf "check_step" "check_step" (defArgs s_check_step) (defBody s_check_step) (defScope s_check_step) .none kV_check_step dc_check_step pm_check_step an_check_step cd_check_step ct_check_step), sl_check_step⟩)
    (c_check_step : PySem.W.codeIn K cd_check_step "check_step" = true) (k_check_step : PySem.W.keepIn K (.ref f_check_step) = true)
    {od_BadPlan_init an_BadPlan_init : Option Addr} {sl_BadPlan_init : Array (Option Value)} {oc_BadPlan_init kV_BadPlan_init dc_BadPlan_init pm_BadPlan_init cd_BadPlan_init ct_BadPlan_init : Value} {f_BadPlan_init : Addr}
    (a_BadPlan_init : PySem.W.findIn K (.ref A_BadPlan) "__init__" = some (some (.ref f_BadPlan_init)))
    (t_BadPlan_init : PySem.W.typeIn K (.ref f_BadPlan_init) = some (.type "function"))
    (l_BadPlan_init : K.lookup f_BadPlan_init = some ⟨oc_BadPlan_init, od_BadPlan_init, .func (PySem.W.fnOf "__init__" "BadPlan.__init__" (defArgs s_BadPlan_init) (defBody s_BadPlan_init) (defScope s_BadPlan_init) .none kV_BadPlan_init dc_BadPlan_init pm_BadPlan_init an_BadPlan_init cd_BadPlan_init ct_BadPlan_init), sl_BadPlan_init⟩)
    (c_BadPlan_init : PySem.W.codeIn K cd_BadPlan_init "BadPlan.__init__" = true) (k_BadPlan_init : PySem.W.keepIn K (.ref f_BadPlan_init) = true)
    {od_check_plan an_check_plan : Option Addr} {sl_check_plan : Array (Option Value)} {oc_check_plan kV_check_plan dc_check_plan pm_check_plan cd_check_plan ct_check_plan : Value} {f_check_plan : Addr}
    (a_check_plan : PySem.W.nsIn K mainGlobals "check_plan" = some (some (.ref f_check_plan)))
    (l_check_plan : K.lookup f_check_plan = some ⟨oc_check_plan, od_check_plan, .func (PySem.W.fnOf "check_plan" "check_plan" (defArgs s_check_plan) (defBody s_check_plan) (defScope s_check_plan) .none kV_check_plan dc_check_plan pm_check_plan an_check_plan cd_check_plan ct_check_plan), sl_check_plan⟩)
    (c_check_plan : PySem.W.codeIn K cd_check_plan "check_plan" = true) (k_check_plan : PySem.W.keepIn K (.ref f_check_plan) = true)
    {od_steps an_steps : Option Addr} {sl_steps : Array (Option Value)} {oc_steps kV_steps dc_steps pm_steps cd_steps ct_steps : Value} {f_steps : Addr}
    (a_steps : PySem.W.nsIn K mainGlobals "steps" = some (some (.ref f_steps)))
    (l_steps : K.lookup f_steps = some ⟨oc_steps, od_steps, .func (PySem.W.fnOf "steps" "steps" (defArgs s_steps) (defBody s_steps) (defScope s_steps) .none kV_steps dc_steps pm_steps an_steps cd_steps ct_steps), sl_steps⟩)
    (c_steps : PySem.W.codeIn K cd_steps "steps" = true) (k_steps : PySem.W.keepIn K (.ref f_steps) = true)
    {od_stepped an_stepped : Option Addr} {sl_stepped : Array (Option Value)} {oc_stepped kV_stepped dc_stepped pm_stepped cd_stepped ct_stepped : Value} {f_stepped : Addr}
    (a_stepped : PySem.W.nsIn K mainGlobals "stepped" = some (some (.ref f_stepped)))
    (l_stepped : K.lookup f_stepped = some ⟨oc_stepped, od_stepped, .func (PySem.W.fnOf "stepped" "stepped" (defArgs s_stepped) (defBody s_stepped) (defScope s_stepped) .none kV_stepped dc_stepped pm_stepped an_stepped cd_stepped ct_stepped), sl_stepped⟩)
    (c_stepped : PySem.W.codeIn K cd_stepped "stepped" = true) (k_stepped : PySem.W.keepIn K (.ref f_stepped) = true)
    {od_judge an_judge : Option Addr} {sl_judge : Array (Option Value)} {oc_judge kV_judge dc_judge pm_judge cd_judge ct_judge : Value} {f_judge : Addr}
    (a_judge : PySem.W.nsIn K mainGlobals "judge" = some (some (.ref f_judge)))
    (l_judge : K.lookup f_judge = some ⟨oc_judge, od_judge, .func (PySem.W.fnOf "judge" "judge" (defArgs s_judge) (defBody s_judge) (defScope s_judge) .none kV_judge dc_judge pm_judge an_judge cd_judge ct_judge), sl_judge⟩)
    (c_judge : PySem.W.codeIn K cd_judge "judge" = true) (k_judge : PySem.W.keepIn K (.ref f_judge) = true)
    {od_Desk_init an_Desk_init : Option Addr} {sl_Desk_init : Array (Option Value)} {oc_Desk_init kV_Desk_init dc_Desk_init pm_Desk_init cd_Desk_init ct_Desk_init : Value} {f_Desk_init : Addr}
    (a_Desk_init : PySem.W.findIn K (.ref A_Desk) "__init__" = some (some (.ref f_Desk_init)))
    (i_Desk_init : PySem.W.isFn K (.ref f_Desk_init) = true)
    (l_Desk_init : K.lookup f_Desk_init = some ⟨oc_Desk_init, od_Desk_init, .func (PySem.W.fnOf "__init__" "Desk.__init__" (defArgs s_Desk_init) (defBody s_Desk_init) (defScope s_Desk_init) .none kV_Desk_init dc_Desk_init pm_Desk_init an_Desk_init cd_Desk_init ct_Desk_init), sl_Desk_init⟩)
    (c_Desk_init : PySem.W.codeIn K cd_Desk_init "Desk.__init__" = true) (k_Desk_init : PySem.W.keepIn K (.ref f_Desk_init) = true)
    {od_Desk_move an_Desk_move : Option Addr} {sl_Desk_move : Array (Option Value)} {oc_Desk_move kV_Desk_move dc_Desk_move pm_Desk_move cd_Desk_move ct_Desk_move : Value} {f_Desk_move : Addr}
    (a_Desk_move : PySem.W.findIn K (.ref A_Desk) "move" = some (some (.ref f_Desk_move)))
    (i_Desk_move : PySem.W.isFn K (.ref f_Desk_move) = true)
    (l_Desk_move : K.lookup f_Desk_move = some ⟨oc_Desk_move, od_Desk_move, .func (PySem.W.fnOf "move" "Desk.move" (defArgs s_Desk_move) (defBody s_Desk_move) (defScope s_Desk_move) .none kV_Desk_move dc_Desk_move pm_Desk_move an_Desk_move cd_Desk_move ct_Desk_move), sl_Desk_move⟩)
    (c_Desk_move : PySem.W.codeIn K cd_Desk_move "Desk.move" = true) (k_Desk_move : PySem.W.keepIn K (.ref f_Desk_move) = true)
    {od_split_twos an_split_twos : Option Addr} {sl_split_twos : Array (Option Value)} {oc_split_twos kV_split_twos dc_split_twos pm_split_twos cd_split_twos ct_split_twos : Value} {f_split_twos : Addr}
    (a_split_twos : PySem.W.nsIn K mainGlobals "split_twos" = some (some (.ref f_split_twos)))
    (l_split_twos : K.lookup f_split_twos = some ⟨oc_split_twos, od_split_twos, .func (PySem.W.fnOf "split_twos" "split_twos" (defArgs s_split_twos) (defBody s_split_twos) (defScope s_split_twos) .none kV_split_twos dc_split_twos pm_split_twos an_split_twos cd_split_twos ct_split_twos), sl_split_twos⟩)
    (c_split_twos : PySem.W.codeIn K cd_split_twos "split_twos" = true) (k_split_twos : PySem.W.keepIn K (.ref f_split_twos) = true)
    {od_reduced_parts an_reduced_parts : Option Addr} {sl_reduced_parts : Array (Option Value)} {oc_reduced_parts kV_reduced_parts dc_reduced_parts pm_reduced_parts cd_reduced_parts ct_reduced_parts : Value} {f_reduced_parts : Addr}
    (a_reduced_parts : PySem.W.nsIn K mainGlobals "reduced_parts" = some (some (.ref f_reduced_parts)))
    (l_reduced_parts : K.lookup f_reduced_parts = some ⟨oc_reduced_parts, od_reduced_parts, .func (PySem.W.fnOf "reduced_parts" "reduced_parts" (defArgs s_reduced_parts) (defBody s_reduced_parts) (defScope s_reduced_parts) .none kV_reduced_parts dc_reduced_parts pm_reduced_parts an_reduced_parts cd_reduced_parts ct_reduced_parts), sl_reduced_parts⟩)
    (c_reduced_parts : PySem.W.codeIn K cd_reduced_parts "reduced_parts" = true) (k_reduced_parts : PySem.W.keepIn K (.ref f_reduced_parts) = true)
    {od_power_of_two an_power_of_two : Option Addr} {sl_power_of_two : Array (Option Value)} {oc_power_of_two kV_power_of_two dc_power_of_two pm_power_of_two cd_power_of_two ct_power_of_two : Value} {f_power_of_two : Addr}
    (a_power_of_two : PySem.W.nsIn K mainGlobals "power_of_two" = some (some (.ref f_power_of_two)))
    (l_power_of_two : K.lookup f_power_of_two = some ⟨oc_power_of_two, od_power_of_two, .func (PySem.W.fnOf "power_of_two" "power_of_two" (defArgs s_power_of_two) (defBody s_power_of_two) (defScope s_power_of_two) .none kV_power_of_two dc_power_of_two pm_power_of_two an_power_of_two cd_power_of_two ct_power_of_two), sl_power_of_two⟩)
    (c_power_of_two : PySem.W.codeIn K cd_power_of_two "power_of_two" = true) (k_power_of_two : PySem.W.keepIn K (.ref f_power_of_two) = true)
    {od_check_two an_check_two : Option Addr} {sl_check_two : Array (Option Value)} {oc_check_two kV_check_two dc_check_two pm_check_two cd_check_two ct_check_two : Value} {f_check_two : Addr}
    (a_check_two : PySem.W.nsIn K mainGlobals "check_two" = some (some (.ref f_check_two)))
    (l_check_two : K.lookup f_check_two = some ⟨oc_check_two, od_check_two, .func (PySem.W.fnOf "check_two" "check_two" (defArgs s_check_two) (defBody s_check_two) (defScope s_check_two) .none kV_check_two dc_check_two pm_check_two an_check_two cd_check_two ct_check_two), sl_check_two⟩)
    (c_check_two : PySem.W.codeIn K cd_check_two "check_two" = true) (k_check_two : PySem.W.keepIn K (.ref f_check_two) = true)
    {od_ends_after an_ends_after : Option Addr} {sl_ends_after : Array (Option Value)} {oc_ends_after kV_ends_after dc_ends_after pm_ends_after cd_ends_after ct_ends_after : Value} {f_ends_after : Addr}
    (a_ends_after : PySem.W.nsIn K mainGlobals "ends_after" = some (some (.ref f_ends_after)))
    (l_ends_after : K.lookup f_ends_after = some ⟨oc_ends_after, od_ends_after, .func (PySem.W.fnOf "ends_after" "ends_after" (defArgs s_ends_after) (defBody s_ends_after) (defScope s_ends_after) .none kV_ends_after dc_ends_after pm_ends_after an_ends_after cd_ends_after ct_ends_after), sl_ends_after⟩)
    (c_ends_after : PySem.W.codeIn K cd_ends_after "ends_after" = true) (k_ends_after : PySem.W.keepIn K (.ref f_ends_after) = true)
    {od_after an_after : Option Addr} {sl_after : Array (Option Value)} {oc_after kV_after dc_after pm_after cd_after ct_after : Value} {f_after : Addr}
    (a_after : PySem.W.nsIn K mainGlobals "after" = some (some (.ref f_after)))
    (l_after : K.lookup f_after = some ⟨oc_after, od_after, .func (PySem.W.fnOf "after" "after" (defArgs s_after) (defBody s_after) (defScope s_after) .none kV_after dc_after pm_after an_after cd_after ct_after), sl_after⟩)
    (c_after : PySem.W.codeIn K cd_after "after" = true) (k_after : PySem.W.keepIn K (.ref f_after) = true)
    {od_origins an_origins : Option Addr} {sl_origins : Array (Option Value)} {oc_origins kV_origins dc_origins pm_origins cd_origins ct_origins : Value} {f_origins : Addr}
    (a_origins : PySem.W.nsIn K mainGlobals "origins" = some (some (.ref f_origins)))
    (l_origins : K.lookup f_origins = some ⟨oc_origins, od_origins, .func (PySem.W.fnOf "origins" "origins" (defArgs s_origins) (defBody s_origins) (defScope s_origins) .none kV_origins dc_origins pm_origins an_origins cd_origins ct_origins), sl_origins⟩)
    (c_origins : PySem.W.codeIn K cd_origins "origins" = true) (k_origins : PySem.W.keepIn K (.ref f_origins) = true)
    {od_fronts an_fronts : Option Addr} {sl_fronts : Array (Option Value)} {oc_fronts kV_fronts dc_fronts pm_fronts cd_fronts ct_fronts : Value} {f_fronts : Addr}
    (a_fronts : PySem.W.nsIn K mainGlobals "fronts" = some (some (.ref f_fronts)))
    (l_fronts : K.lookup f_fronts = some ⟨oc_fronts, od_fronts, .func (PySem.W.fnOf "fronts" "fronts" (defArgs s_fronts) (defBody s_fronts) (defScope s_fronts) .none kV_fronts dc_fronts pm_fronts an_fronts cd_fronts ct_fronts), sl_fronts⟩)
    (c_fronts : PySem.W.codeIn K cd_fronts "fronts" = true) (k_fronts : PySem.W.keepIn K (.ref f_fronts) = true)
    {od_check_small an_check_small : Option Addr} {sl_check_small : Array (Option Value)} {oc_check_small kV_check_small dc_check_small pm_check_small cd_check_small ct_check_small : Value} {f_check_small : Addr}
    (a_check_small : PySem.W.nsIn K mainGlobals "check_small" = some (some (.ref f_check_small)))
    (l_check_small : K.lookup f_check_small = some ⟨oc_check_small, od_check_small, .func (PySem.W.fnOf "check_small" "check_small" (defArgs s_check_small) (defBody s_check_small) (defScope s_check_small) .none kV_check_small dc_check_small pm_check_small an_check_small cd_check_small ct_check_small), sl_check_small⟩)
    (c_check_small : PySem.W.codeIn K cd_check_small "check_small" = true) (k_check_small : PySem.W.keepIn K (.ref f_check_small) = true)
    {od_fewest an_fewest : Option Addr} {sl_fewest : Array (Option Value)} {oc_fewest kV_fewest dc_fewest pm_fewest cd_fewest ct_fewest : Value} {f_fewest : Addr}
    (a_fewest : PySem.W.nsIn K mainGlobals "fewest" = some (some (.ref f_fewest)))
    (l_fewest : K.lookup f_fewest = some ⟨oc_fewest, od_fewest, .func (PySem.W.fnOf "fewest" "fewest" (defArgs s_fewest) (defBody s_fewest) (defScope s_fewest) .none kV_fewest dc_fewest pm_fewest an_fewest cd_fewest ct_fewest), sl_fewest⟩)
    (c_fewest : PySem.W.codeIn K cd_fewest "fewest" = true) (k_fewest : PySem.W.keepIn K (.ref f_fewest) = true)
    {od_InvalidText_init an_InvalidText_init : Option Addr} {sl_InvalidText_init : Array (Option Value)} {oc_InvalidText_init kV_InvalidText_init dc_InvalidText_init pm_InvalidText_init cd_InvalidText_init ct_InvalidText_init : Value} {f_InvalidText_init : Addr}
    (a_InvalidText_init : PySem.W.findIn K (.ref A_InvalidText) "__init__" = some (some (.ref f_InvalidText_init)))
    (t_InvalidText_init : PySem.W.typeIn K (.ref f_InvalidText_init) = some (.type "function"))
    (l_InvalidText_init : K.lookup f_InvalidText_init = some ⟨oc_InvalidText_init, od_InvalidText_init, .func (PySem.W.fnOf "__init__" "InvalidText.__init__" (defArgs s_InvalidText_init) (defBody s_InvalidText_init) (defScope s_InvalidText_init) .none kV_InvalidText_init dc_InvalidText_init pm_InvalidText_init an_InvalidText_init cd_InvalidText_init ct_InvalidText_init), sl_InvalidText_init⟩)
    (c_InvalidText_init : PySem.W.codeIn K cd_InvalidText_init "InvalidText.__init__" = true) (k_InvalidText_init : PySem.W.keepIn K (.ref f_InvalidText_init) = true)
    {od_is_number an_is_number : Option Addr} {sl_is_number : Array (Option Value)} {oc_is_number kV_is_number dc_is_number pm_is_number cd_is_number ct_is_number : Value} {f_is_number : Addr}
    (a_is_number : PySem.W.nsIn K mainGlobals "is_number" = some (some (.ref f_is_number)))
    (l_is_number : K.lookup f_is_number = some ⟨oc_is_number, od_is_number, .func (PySem.W.fnOf "is_number" "is_number" (defArgs s_is_number) (defBody s_is_number) (defScope s_is_number) .none kV_is_number dc_is_number pm_is_number an_is_number cd_is_number ct_is_number), sl_is_number⟩)
    (c_is_number : PySem.W.codeIn K cd_is_number "is_number" = true) (k_is_number : PySem.W.keepIn K (.ref f_is_number) = true)
    {od_words_of an_words_of : Option Addr} {sl_words_of : Array (Option Value)} {oc_words_of kV_words_of dc_words_of pm_words_of cd_words_of ct_words_of : Value} {f_words_of : Addr}
    (a_words_of : PySem.W.nsIn K mainGlobals "words_of" = some (some (.ref f_words_of)))
    (l_words_of : K.lookup f_words_of = some ⟨oc_words_of, od_words_of, .func (PySem.W.fnOf "words_of" "words_of" (defArgs s_words_of) (defBody s_words_of) (defScope s_words_of) .none kV_words_of dc_words_of pm_words_of an_words_of cd_words_of ct_words_of), sl_words_of⟩)
    (c_words_of : PySem.W.codeIn K cd_words_of "words_of" = true) (k_words_of : PySem.W.keepIn K (.ref f_words_of) = true)
    {od_numbers_behind an_numbers_behind : Option Addr} {sl_numbers_behind : Array (Option Value)} {oc_numbers_behind kV_numbers_behind dc_numbers_behind pm_numbers_behind cd_numbers_behind ct_numbers_behind : Value} {f_numbers_behind : Addr}
    (a_numbers_behind : PySem.W.nsIn K mainGlobals "numbers_behind" = some (some (.ref f_numbers_behind)))
    (l_numbers_behind : K.lookup f_numbers_behind = some ⟨oc_numbers_behind, od_numbers_behind, .func (PySem.W.fnOf "numbers_behind" "numbers_behind" (defArgs s_numbers_behind) (defBody s_numbers_behind) (defScope s_numbers_behind) .none kV_numbers_behind dc_numbers_behind pm_numbers_behind an_numbers_behind cd_numbers_behind ct_numbers_behind), sl_numbers_behind⟩)
    (c_numbers_behind : PySem.W.codeIn K cd_numbers_behind "numbers_behind" = true) (k_numbers_behind : PySem.W.keepIn K (.ref f_numbers_behind) = true)
    {od_wrong_in_heaps an_wrong_in_heaps : Option Addr} {sl_wrong_in_heaps : Array (Option Value)} {oc_wrong_in_heaps kV_wrong_in_heaps dc_wrong_in_heaps pm_wrong_in_heaps cd_wrong_in_heaps ct_wrong_in_heaps : Value} {f_wrong_in_heaps : Addr}
    (a_wrong_in_heaps : PySem.W.nsIn K mainGlobals "wrong_in_heaps" = some (some (.ref f_wrong_in_heaps)))
    (l_wrong_in_heaps : K.lookup f_wrong_in_heaps = some ⟨oc_wrong_in_heaps, od_wrong_in_heaps, .func (PySem.W.fnOf "wrong_in_heaps" "wrong_in_heaps" (defArgs s_wrong_in_heaps) (defBody s_wrong_in_heaps) (defScope s_wrong_in_heaps) .none kV_wrong_in_heaps dc_wrong_in_heaps pm_wrong_in_heaps an_wrong_in_heaps cd_wrong_in_heaps ct_wrong_in_heaps), sl_wrong_in_heaps⟩)
    (c_wrong_in_heaps : PySem.W.codeIn K cd_wrong_in_heaps "wrong_in_heaps" = true) (k_wrong_in_heaps : PySem.W.keepIn K (.ref f_wrong_in_heaps) = true)
    {od_wrong_in_step an_wrong_in_step : Option Addr} {sl_wrong_in_step : Array (Option Value)} {oc_wrong_in_step kV_wrong_in_step dc_wrong_in_step pm_wrong_in_step cd_wrong_in_step ct_wrong_in_step : Value} {f_wrong_in_step : Addr}
    (a_wrong_in_step : PySem.W.nsIn K mainGlobals "wrong_in_step" = some (some (.ref f_wrong_in_step)))
    (l_wrong_in_step : K.lookup f_wrong_in_step = some ⟨oc_wrong_in_step, od_wrong_in_step, .func (PySem.W.fnOf "wrong_in_step" "wrong_in_step" (defArgs s_wrong_in_step) (defBody s_wrong_in_step) (defScope s_wrong_in_step) .none kV_wrong_in_step dc_wrong_in_step pm_wrong_in_step an_wrong_in_step cd_wrong_in_step ct_wrong_in_step), sl_wrong_in_step⟩)
    (c_wrong_in_step : PySem.W.codeIn K cd_wrong_in_step "wrong_in_step" = true) (k_wrong_in_step : PySem.W.keepIn K (.ref f_wrong_in_step) = true)
    {od_read_heaps an_read_heaps : Option Addr} {sl_read_heaps : Array (Option Value)} {oc_read_heaps kV_read_heaps dc_read_heaps pm_read_heaps cd_read_heaps ct_read_heaps : Value} {f_read_heaps : Addr}
    (a_read_heaps : PySem.W.nsIn K mainGlobals "read_heaps" = some (some (.ref f_read_heaps)))
    (l_read_heaps : K.lookup f_read_heaps = some ⟨oc_read_heaps, od_read_heaps, .func (PySem.W.fnOf "read_heaps" "read_heaps" (defArgs s_read_heaps) (defBody s_read_heaps) (defScope s_read_heaps) .none kV_read_heaps dc_read_heaps pm_read_heaps an_read_heaps cd_read_heaps ct_read_heaps), sl_read_heaps⟩)
    (c_read_heaps : PySem.W.codeIn K cd_read_heaps "read_heaps" = true) (k_read_heaps : PySem.W.keepIn K (.ref f_read_heaps) = true)
    {od_read_plan an_read_plan : Option Addr} {sl_read_plan : Array (Option Value)} {oc_read_plan kV_read_plan dc_read_plan pm_read_plan cd_read_plan ct_read_plan : Value} {f_read_plan : Addr}
    (a_read_plan : PySem.W.nsIn K mainGlobals "read_plan" = some (some (.ref f_read_plan)))
    (l_read_plan : K.lookup f_read_plan = some ⟨oc_read_plan, od_read_plan, .func (PySem.W.fnOf "read_plan" "read_plan" (defArgs s_read_plan) (defBody s_read_plan) (defScope s_read_plan) .none kV_read_plan dc_read_plan pm_read_plan an_read_plan cd_read_plan ct_read_plan), sl_read_plan⟩)
    (c_read_plan : PySem.W.codeIn K cd_read_plan "read_plan" = true) (k_read_plan : PySem.W.keepIn K (.ref f_read_plan) = true)
    {od_l_mix an_l_mix : Option Addr} {sl_l_mix : Array (Option Value)} {oc_l_mix kV_l_mix dc_l_mix pm_l_mix cd_l_mix ct_l_mix : Value} {f_l_mix : Addr}
    (a_l_mix : PySem.W.nsIn K mainGlobals "_law_mix" = some (some (.ref f_l_mix)))
    (l_l_mix : K.lookup f_l_mix = some ⟨oc_l_mix, od_l_mix, .func (PySem.W.fnOf "_law_mix" "_law_mix" (defArgs s_l_mix) (defBody s_l_mix) (defScope s_l_mix) .none kV_l_mix dc_l_mix pm_l_mix an_l_mix cd_l_mix ct_l_mix), sl_l_mix⟩)
    (c_l_mix : PySem.W.codeIn K cd_l_mix "_law_mix" = true) (k_l_mix : PySem.W.keepIn K (.ref f_l_mix) = true)
    {od_l_next an_l_next : Option Addr} {sl_l_next : Array (Option Value)} {oc_l_next kV_l_next dc_l_next pm_l_next cd_l_next ct_l_next : Value} {f_l_next : Addr}
    (a_l_next : PySem.W.nsIn K mainGlobals "_law_next" = some (some (.ref f_l_next)))
    (l_l_next : K.lookup f_l_next = some ⟨oc_l_next, od_l_next, .func (PySem.W.fnOf "_law_next" "_law_next" (defArgs s_l_next) (defBody s_l_next) (defScope s_l_next) .none kV_l_next dc_l_next pm_l_next an_l_next cd_l_next ct_l_next), sl_l_next⟩)
    (c_l_next : PySem.W.codeIn K cd_l_next "_law_next" = true) (k_l_next : PySem.W.keepIn K (.ref f_l_next) = true)
    {od_l_which an_l_which : Option Addr} {sl_l_which : Array (Option Value)} {oc_l_which kV_l_which dc_l_which pm_l_which cd_l_which ct_l_which : Value} {f_l_which : Addr}
    (a_l_which : PySem.W.nsIn K mainGlobals "_law_which" = some (some (.ref f_l_which)))
    (l_l_which : K.lookup f_l_which = some ⟨oc_l_which, od_l_which, .func (PySem.W.fnOf "_law_which" "_law_which" (defArgs s_l_which) (defBody s_l_which) (defScope s_l_which) .none kV_l_which dc_l_which pm_l_which an_l_which cd_l_which ct_l_which), sl_l_which⟩)
    (c_l_which : PySem.W.codeIn K cd_l_which "_law_which" = true) (k_l_which : PySem.W.keepIn K (.ref f_l_which) = true)
    {od_l_do an_l_do : Option Addr} {sl_l_do : Array (Option Value)} {oc_l_do kV_l_do dc_l_do pm_l_do cd_l_do ct_l_do : Value} {f_l_do : Addr}
    (a_l_do : PySem.W.nsIn K mainGlobals "_law_do" = some (some (.ref f_l_do)))
    (l_l_do : K.lookup f_l_do = some ⟨oc_l_do, od_l_do, .func (PySem.W.fnOf "_law_do" "_law_do" (defArgs s_l_do) (defBody s_l_do) (defScope s_l_do) .none kV_l_do dc_l_do pm_l_do an_l_do cd_l_do ct_l_do), sl_l_do⟩)
    (c_l_do : PySem.W.codeIn K cd_l_do "_law_do" = true) (k_l_do : PySem.W.keepIn K (.ref f_l_do) = true)
    {od_law an_law : Option Addr} {sl_law : Array (Option Value)} {oc_law kV_law dc_law pm_law cd_law ct_law : Value} {f_law : Addr}
    (a_law : PySem.W.nsIn K mainGlobals "law" = some (some (.ref f_law)))
    (l_law : K.lookup f_law = some ⟨oc_law, od_law, .func (PySem.W.fnOf "law" "law" (defArgs s_law) (defBody s_law) (defScope s_law) .none kV_law dc_law pm_law an_law cd_law ct_law), sl_law⟩)
    (c_law : PySem.W.codeIn K cd_law "law" = true) (k_law : PySem.W.keepIn K (.ref f_law) = true)
    (z_int : PySem.W.nsIn K mainGlobals "int" = some none)
    (z_bool : PySem.W.nsIn K mainGlobals "bool" = some none)
    (z_list : PySem.W.nsIn K mainGlobals "list" = some none)
    (z_len : PySem.W.nsIn K mainGlobals "len" = some none)
    (z_tuple : PySem.W.nsIn K mainGlobals "tuple" = some none)
    (z_isinstance : PySem.W.nsIn K mainGlobals "isinstance" = some none)
    (z_all : PySem.W.nsIn K mainGlobals "all" = some none)
    (z_any : PySem.W.nsIn K mainGlobals "any" = some none)
    (z_sum : PySem.W.nsIn K mainGlobals "sum" = some none)
    (z_enumerate : PySem.W.nsIn K mainGlobals "enumerate" = some none)
    (z_range : PySem.W.nsIn K mainGlobals "range" = some none)
    (z_sorted : PySem.W.nsIn K mainGlobals "sorted" = some none)
    (z_set : PySem.W.nsIn K mainGlobals "set" = some none)
    (z_max : PySem.W.nsIn K mainGlobals "max" = some none)
    (z_min : PySem.W.nsIn K mainGlobals "min" = some none)
    (z_str : PySem.W.nsIn K mainGlobals "str" = some none)
    {tk_FEWEST_HEAPS : Tok} (w_FEWEST_HEAPS : PySem.W.nsIn K mainGlobals "FEWEST_HEAPS" = some (some (.int 2 tk_FEWEST_HEAPS)))
    {tk_MOST_HEAPS : Tok} (w_MOST_HEAPS : PySem.W.nsIn K mainGlobals "MOST_HEAPS" = some (some (.int 6 tk_MOST_HEAPS)))
    {tk_GREATEST : Tok} (w_GREATEST : PySem.W.nsIn K mainGlobals "GREATEST" = some (some (.int 1000000000000000000000000000000 tk_GREATEST)))
    {tk_LONGEST_PLAN : Tok} (w_LONGEST_PLAN : PySem.W.nsIn K mainGlobals "LONGEST_PLAN" = some (some (.int 20000 tk_LONGEST_PLAN)))
    {tk_MOST_STEPS : Tok} (w_MOST_STEPS : PySem.W.nsIn K mainGlobals "MOST_STEPS" = some (some (.int 100 tk_MOST_STEPS)))
    {tk_MOST_SMALL_HEAPS : Tok} (w_MOST_SMALL_HEAPS : PySem.W.nsIn K mainGlobals "MOST_SMALL_HEAPS" = some (some (.int 4 tk_MOST_SMALL_HEAPS)))
    {tk_GREATEST_SMALL_SUM : Tok} (w_GREATEST_SMALL_SUM : PySem.W.nsIn K mainGlobals "GREATEST_SMALL_SUM" = some (some (.int 40 tk_GREATEST_SMALL_SUM)))
    {tk_HEAPS_WORD : Tok} (w_HEAPS_WORD : PySem.W.nsIn K mainGlobals "HEAPS_WORD" = some (some (.str "heaps" tk_HEAPS_WORD)))
    {tk_STEP_WORD : Tok} (w_STEP_WORD : PySem.W.nsIn K mainGlobals "STEP_WORD" = some (some (.str "step" tk_STEP_WORD)))
    : ∃ fd : FuncData, (∀ (s : Shared) (v : Value), BindsTo s fd ⟨[v], []⟩ [("_law_script", v)]) ∧ ∀ base : Heap, K.In base → base.Ns mainGlobals mg → FnOk l.prog w K mg base CX0 10 fa fd ["_law_script"] (spLaw K) := by
  have e := hfa.symm.trans (PySem.W.mg_of X G a_law)
  cases e
  have F_is_integer := fun_mk (st := s_is_integer) l_is_integer c_is_integer k_is_integer
  have b_is_integer := F_is_integer.binds (ps := ["value", "least", "greatest"]) fun _ _ _ _ _ _ us hl => match us, hl with | [_, _, _], _ => rfl
  have F_is_heaps := fun_mk (st := s_is_heaps) l_is_heaps c_is_heaps k_is_heaps
  have b_is_heaps := F_is_heaps.binds (ps := ["value"]) fun _ _ _ _ _ _ us hl => match us, hl with | [_], _ => rfl
  have F_check_heaps := fun_mk (st := s_check_heaps) l_check_heaps c_check_heaps k_check_heaps
  have b_check_heaps := F_check_heaps.binds (ps := ["heaps"]) fun _ _ _ _ _ _ us hl => match us, hl with | [_], _ => rfl
  have F_is_pair_of := fun_mk (st := s_is_pair_of) l_is_pair_of c_is_pair_of k_is_pair_of
  have b_is_pair_of := F_is_pair_of.binds (ps := ["many", "value"]) fun _ _ _ _ _ _ us hl => match us, hl with | [_, _], _ => rfl
  have F_can_be_made := fun_mk (st := s_can_be_made) l_can_be_made c_can_be_made k_can_be_made
  have b_can_be_made := F_can_be_made.binds (ps := ["heaps", "step"]) fun _ _ _ _ _ _ us hl => match us, hl with | [_, _], _ => rfl
  have F_pairs_of := fun_mk (st := s_pairs_of) l_pairs_of c_pairs_of k_pairs_of
  have b_pairs_of := F_pairs_of.binds (ps := ["many"]) fun _ _ _ _ _ _ us hl => match us, hl with | [_], _ => rfl
  have F_steps_from := fun_mk (st := s_steps_from) l_steps_from c_steps_from k_steps_from
  have b_steps_from := F_steps_from.binds (ps := ["heaps"]) fun _ _ _ _ _ _ us hl => match us, hl with | [_], _ => rfl
  have F_shifted := fun_mk (st := s_shifted) l_shifted c_shifted k_shifted
  have b_shifted := F_shifted.binds (ps := ["heaps", "step", "many"]) fun _ _ _ _ _ _ us hl => match us, hl with | [_, _, _], _ => rfl
  have F_behind := fun_mk (st := s_behind) l_behind c_behind k_behind
  have b_behind := F_behind.binds (ps := ["heaps", "step"]) fun _ _ _ _ _ _ us hl => match us, hl with | [_, _], _ => rfl
  have F_check_step := fun_mk (st := s_check_step) l_check_step c_check_step k_check_step
  have b_check_step := F_check_step.binds (ps := ["heaps", "step"]) fun _ _ _ _ _ _ us hl => match us, hl with | [_, _], _ => rfl
  have F_BadPlan_init := fun_mk (st := s_BadPlan_init) l_BadPlan_init c_BadPlan_init k_BadPlan_init
  have b_BadPlan_init := F_BadPlan_init.binds (ps := ["self", "index"]) fun _ _ _ _ _ _ us hl => match us, hl with | [_, _], _ => rfl
  have F_check_plan := fun_mk (st := s_check_plan) l_check_plan c_check_plan k_check_plan
  have b_check_plan := F_check_plan.binds (ps := ["many", "plan"]) fun _ _ _ _ _ _ us hl => match us, hl with | [_, _], _ => rfl
  have F_steps := fun_mk (st := s_steps) l_steps c_steps k_steps
  have b_steps := F_steps.binds (ps := ["heaps"]) fun _ _ _ _ _ _ us hl => match us, hl with | [_], _ => rfl
  have F_stepped := fun_mk (st := s_stepped) l_stepped c_stepped k_stepped
  have b_stepped := F_stepped.binds (ps := ["heaps", "step"]) fun _ _ _ _ _ _ us hl => match us, hl with | [_, _], _ => rfl
  have F_judge := fun_mk (st := s_judge) l_judge c_judge k_judge
  have b_judge := F_judge.binds (ps := ["heaps", "plan"]) fun _ _ _ _ _ _ us hl => match us, hl with | [_, _], _ => rfl
  have F_Desk_init := fun_mk (st := s_Desk_init) l_Desk_init c_Desk_init k_Desk_init
  have b_Desk_init := F_Desk_init.binds (ps := ["self", "heaps"]) fun _ _ _ _ _ _ us hl => match us, hl with | [_, _], _ => rfl
  have F_Desk_move := fun_mk (st := s_Desk_move) l_Desk_move c_Desk_move k_Desk_move
  have b_Desk_move := F_Desk_move.binds (ps := ["self", "one", "other"]) fun _ _ _ _ _ _ us hl => match us, hl with | [_, _, _], _ => rfl
  have F_split_twos := fun_mk (st := s_split_twos) l_split_twos c_split_twos k_split_twos
  have b_split_twos := F_split_twos.binds (ps := ["number"]) fun _ _ _ _ _ _ us hl => match us, hl with | [_], _ => rfl
  have F_reduced_parts := fun_mk (st := s_reduced_parts) l_reduced_parts c_reduced_parts k_reduced_parts
  have b_reduced_parts := F_reduced_parts.binds (ps := ["numbers"]) fun _ _ _ _ _ _ us hl => match us, hl with | [_], _ => rfl
  have F_power_of_two := fun_mk (st := s_power_of_two) l_power_of_two c_power_of_two k_power_of_two
  have b_power_of_two := F_power_of_two.binds (ps := ["exponent", "modulus"]) fun _ _ _ _ _ _ us hl => match us, hl with | [_, _], _ => rfl
  have F_check_two := fun_mk (st := s_check_two) l_check_two c_check_two k_check_two
  have b_check_two := F_check_two.binds (ps := ["heaps"]) fun _ _ _ _ _ _ us hl => match us, hl with | [_], _ => rfl
  have F_ends_after := fun_mk (st := s_ends_after) l_ends_after c_ends_after k_ends_after
  have b_ends_after := F_ends_after.binds (ps := ["heaps"]) fun _ _ _ _ _ _ us hl => match us, hl with | [_], _ => rfl
  have F_after := fun_mk (st := s_after) l_after c_after k_after
  have b_after := F_after.binds (ps := ["heaps", "many"]) fun _ _ _ _ _ _ us hl => match us, hl with | [_, _], _ => rfl
  have F_origins := fun_mk (st := s_origins) l_origins c_origins k_origins
  have b_origins := F_origins.binds (ps := ["front"]) fun _ _ _ _ _ _ us hl => match us, hl with | [_], _ => rfl
  have F_fronts := fun_mk (st := s_fronts) l_fronts c_fronts k_fronts
  have b_fronts := F_fronts.binds (ps := ["heaps"]) fun _ _ _ _ _ _ us hl => match us, hl with | [_], _ => rfl
  have F_check_small := fun_mk (st := s_check_small) l_check_small c_check_small k_check_small
  have b_check_small := F_check_small.binds (ps := ["heaps"]) fun _ _ _ _ _ _ us hl => match us, hl with | [_], _ => rfl
  have F_fewest := fun_mk (st := s_fewest) l_fewest c_fewest k_fewest
  have b_fewest := F_fewest.binds (ps := ["heaps"]) fun _ _ _ _ _ _ us hl => match us, hl with | [_], _ => rfl
  have F_InvalidText_init := fun_mk (st := s_InvalidText_init) l_InvalidText_init c_InvalidText_init k_InvalidText_init
  have b_InvalidText_init := F_InvalidText_init.binds (ps := ["self", "line", "word"]) fun _ _ _ _ _ _ us hl => match us, hl with | [_, _, _], _ => rfl
  have F_is_number := fun_mk (st := s_is_number) l_is_number c_is_number k_is_number
  have b_is_number := F_is_number.binds (ps := ["word", "greatest"]) fun _ _ _ _ _ _ us hl => match us, hl with | [_, _], _ => rfl
  have F_words_of := fun_mk (st := s_words_of) l_words_of c_words_of k_words_of
  have b_words_of := F_words_of.binds (ps := ["line"]) fun _ _ _ _ _ _ us hl => match us, hl with | [_], _ => rfl
  have F_numbers_behind := fun_mk (st := s_numbers_behind) l_numbers_behind c_numbers_behind k_numbers_behind
  have b_numbers_behind := F_numbers_behind.binds (ps := ["words"]) fun _ _ _ _ _ _ us hl => match us, hl with | [_], _ => rfl
  have F_wrong_in_heaps := fun_mk (st := s_wrong_in_heaps) l_wrong_in_heaps c_wrong_in_heaps k_wrong_in_heaps
  have b_wrong_in_heaps := F_wrong_in_heaps.binds (ps := ["words"]) fun _ _ _ _ _ _ us hl => match us, hl with | [_], _ => rfl
  have F_wrong_in_step := fun_mk (st := s_wrong_in_step) l_wrong_in_step c_wrong_in_step k_wrong_in_step
  have b_wrong_in_step := F_wrong_in_step.binds (ps := ["many", "words"]) fun _ _ _ _ _ _ us hl => match us, hl with | [_, _], _ => rfl
  have F_read_heaps := fun_mk (st := s_read_heaps) l_read_heaps c_read_heaps k_read_heaps
  have b_read_heaps := F_read_heaps.binds (ps := ["words"]) fun _ _ _ _ _ _ us hl => match us, hl with | [_], _ => rfl
  have F_read_plan := fun_mk (st := s_read_plan) l_read_plan c_read_plan k_read_plan
  have b_read_plan := F_read_plan.binds (ps := ["text"]) fun _ _ _ _ _ _ us hl => match us, hl with | [_], _ => rfl
  have F_l_mix := fun_mk (st := s_l_mix) l_l_mix c_l_mix k_l_mix
  have b_l_mix := F_l_mix.binds (ps := ["_law_script", "_law_seed"]) fun _ _ _ _ _ _ us hl => match us, hl with | [_, _], _ => rfl
  have F_l_next := fun_mk (st := s_l_next) l_l_next c_l_next k_l_next
  have b_l_next := F_l_next.binds (ps := ["_law_h", "_law_bound"]) fun _ _ _ _ _ _ us hl => match us, hl with | [_, _], _ => rfl
  have F_l_which := fun_mk (st := s_l_which) l_l_which c_l_which k_l_which
  have b_l_which := F_l_which.binds (ps := ["_law_e"]) fun _ _ _ _ _ _ us hl => match us, hl with | [_], _ => rfl
  have F_l_do := fun_mk (st := s_l_do) l_l_do c_l_do k_l_do
  have b_l_do := F_l_do.binds (ps := ["_law_kind", "_law_n"]) fun _ _ _ _ _ _ us hl => match us, hl with | [_, _], _ => rfl
  have F_law := fun_mk (st := s_law) l_law c_law k_law
  have b_law := F_law.binds (ps := ["_law_script"]) fun _ _ _ _ _ _ us hl => match us, hl with | [_], _ => rfl
  have Z : Tz mg := ⟨PySem.W.mg_none_of X G z_int, PySem.W.mg_none_of X G z_bool, PySem.W.mg_none_of X G z_list, PySem.W.mg_none_of X G z_len, PySem.W.mg_none_of X G z_tuple, PySem.W.mg_none_of X G z_isinstance, PySem.W.mg_none_of X G z_all, PySem.W.mg_none_of X G z_any, PySem.W.mg_none_of X G z_sum, PySem.W.mg_none_of X G z_enumerate, PySem.W.mg_none_of X G z_range, PySem.W.mg_none_of X G z_sorted, PySem.W.mg_none_of X G z_set, PySem.W.mg_none_of X G z_max, PySem.W.mg_none_of X G z_min, PySem.W.mg_none_of X G z_str⟩
  have T : Tp mg := ⟨Z, ⟨_, PySem.W.mg_of X G w_FEWEST_HEAPS⟩, ⟨_, PySem.W.mg_of X G w_MOST_HEAPS⟩, ⟨_, PySem.W.mg_of X G w_GREATEST⟩⟩
  have U : Tx K mg := ⟨Z.int, Z.list, Z.max, Z.len, Z.tuple, Z.range⟩
  have B_BadHeaps : NilX l.prog K mg "BadHeaps" A_BadHeaps := ⟨PySem.W.mg_of X G x_BadHeaps, kC_BadHeaps, eC_BadHeaps, tC_BadHeaps, ⟨HE, f_HI, sup_mk tI lI cI lcda hvs hfile lcc hD z_super thr topN, ⟨⟨nm_BadHeaps, q_BadHeaps, N_BadHeaps, bs_BadHeaps, _, sn_BadHeaps, sub_BadHeaps, ab_BadHeaps, col_BadHeaps, dd_BadHeaps, m0_BadHeaps, m1_BadHeaps, m2_BadHeaps, m3_BadHeaps, m5_BadHeaps, xL_BadHeaps, rfl⟩, iHI_BadHeaps, supI_BadHeaps, mroI_BadHeaps, veI_BadHeaps, xinI_BadHeaps⟩⟩⟩
  have te_BadHeaps := exm_self eC_BadHeaps iC_BadHeaps tC_BadHeaps sC_BadHeaps
  have B_BadStep : NilX l.prog K mg "BadStep" A_BadStep := ⟨PySem.W.mg_of X G x_BadStep, kC_BadStep, eC_BadStep, tC_BadStep, ⟨HE, f_HI, sup_mk tI lI cI lcda hvs hfile lcc hD z_super thr topN, ⟨⟨nm_BadStep, q_BadStep, N_BadStep, bs_BadStep, _, sn_BadStep, sub_BadStep, ab_BadStep, col_BadStep, dd_BadStep, m0_BadStep, m1_BadStep, m2_BadStep, m3_BadStep, m5_BadStep, xL_BadStep, rfl⟩, iHI_BadStep, supI_BadStep, mroI_BadStep, veI_BadStep, xinI_BadStep⟩⟩⟩
  have te_BadStep := exm_self eC_BadStep iC_BadStep tC_BadStep sC_BadStep
  have B_BadMany : NilX l.prog K mg "BadMany" A_BadMany := ⟨PySem.W.mg_of X G x_BadMany, kC_BadMany, eC_BadMany, tC_BadMany, ⟨HE, f_HI, sup_mk tI lI cI lcda hvs hfile lcc hD z_super thr topN, ⟨⟨nm_BadMany, q_BadMany, N_BadMany, bs_BadMany, _, sn_BadMany, sub_BadMany, ab_BadMany, col_BadMany, dd_BadMany, m0_BadMany, m1_BadMany, m2_BadMany, m3_BadMany, m5_BadMany, xL_BadMany, rfl⟩, iHI_BadMany, supI_BadMany, mroI_BadMany, veI_BadMany, xinI_BadMany⟩⟩⟩
  have te_BadMany := exm_self eC_BadMany iC_BadMany tC_BadMany sC_BadMany
  have B_TooGreat : NilX l.prog K mg "TooGreat" A_TooGreat := ⟨PySem.W.mg_of X G x_TooGreat, kC_TooGreat, eC_TooGreat, tC_TooGreat, ⟨HE, f_HI, sup_mk tI lI cI lcda hvs hfile lcc hD z_super thr topN, ⟨⟨nm_TooGreat, q_TooGreat, N_TooGreat, bs_TooGreat, _, sn_TooGreat, sub_TooGreat, ab_TooGreat, col_TooGreat, dd_TooGreat, m0_TooGreat, m1_TooGreat, m2_TooGreat, m3_TooGreat, m5_TooGreat, xL_TooGreat, rfl⟩, iHI_TooGreat, supI_TooGreat, mroI_TooGreat, veI_TooGreat, xinI_TooGreat⟩⟩⟩
  have te_TooGreat := exm_self eC_TooGreat iC_TooGreat tC_TooGreat sC_TooGreat
  have B_Full : NilX l.prog K mg "Full" A_Full := ⟨PySem.W.mg_of X G x_Full, kC_Full, eC_Full, tC_Full, ⟨HE, f_HI, sup_mk tI lI cI lcda hvs hfile lcc hD z_super thr topN, ⟨⟨nm_Full, q_Full, N_Full, bs_Full, _, sn_Full, sub_Full, ab_Full, col_Full, dd_Full, m0_Full, m1_Full, m2_Full, m3_Full, m5_Full, xL_Full, rfl⟩, iHI_Full, supI_Full, mroI_Full, veI_Full, xinI_Full⟩⟩⟩
  have te_Full := exm_self eC_Full iC_Full tC_Full sC_Full
  have te_BadPlan := exm_self eC_BadPlan iC_BadPlan tC_BadPlan sC_BadPlan
  have te_InvalidText := exm_self eC_InvalidText iC_InvalidText tC_InvalidText sC_InvalidText
  have cl_Desk : Cls K A_Desk := ⟨pg_Desk, hd_Desk, po_Desk, sa_Desk⟩
  have TT : TxtT mg := ⟨T, ⟨_, PySem.W.mg_of X G w_HEAPS_WORD⟩, ⟨_, PySem.W.mg_of X G w_STEP_WORD⟩⟩
  have TS : Tsm mg := ⟨Z, ⟨_, PySem.W.mg_of X G w_MOST_SMALL_HEAPS⟩, ⟨_, PySem.W.mg_of X G w_GREATEST_SMALL_SUM⟩⟩
  have D : DskT K mg A_Desk := ⟨T, cl_Desk, na_Desk__stands, na_Desk__steps⟩
  have G7 : K7 K mg (sev A_BadHeaps A_BadStep A_BadPlan A_BadMany A_TooGreat A_Full A_InvalidText) HE := ⟨PySem.W.mg_of X G x_BadHeaps, PySem.W.mg_of X G x_BadStep, PySem.W.mg_of X G x_BadPlan, PySem.W.mg_of X G x_BadMany, PySem.W.mg_of X G x_TooGreat, PySem.W.mg_of X G x_Full, PySem.W.mg_of X G x_InvalidText, PySem.W.mg_of X G x_HeapError, PySem.W.mg_none_of X G z_ValueError, all7 ⟨ga_BadHeaps, gg_BadHeaps, eC_BadHeaps, hC_BadHeaps, ha_BadHeaps, hn_cls, ht_cls, hm_BadHeaps⟩ ⟨ga_BadStep, gg_BadStep, eC_BadStep, hC_BadStep, ha_BadStep, hn_cls, ht_cls, hm_BadStep⟩ ⟨ga_BadPlan, gg_BadPlan, eC_BadPlan, hC_BadPlan, ha_BadPlan, hn_cls, ht_cls, hm_BadPlan⟩ ⟨ga_BadMany, gg_BadMany, eC_BadMany, hC_BadMany, ha_BadMany, hn_cls, ht_cls, hm_BadMany⟩ ⟨ga_TooGreat, gg_TooGreat, eC_TooGreat, hC_TooGreat, ha_TooGreat, hn_cls, ht_cls, hm_TooGreat⟩ ⟨ga_Full, gg_Full, eC_Full, hC_Full, ha_Full, hn_cls, ht_cls, hm_Full⟩ ⟨ga_InvalidText, gg_InvalidText, eC_InvalidText, hC_InvalidText, ha_InvalidText, hn_cls, ht_cls, hm_InvalidText⟩, two7 (all7 (all7 kk_BadHeaps_BadHeaps kk_BadHeaps_BadStep kk_BadHeaps_BadPlan kk_BadHeaps_BadMany kk_BadHeaps_TooGreat kk_BadHeaps_Full kk_BadHeaps_InvalidText) (all7 kk_BadStep_BadHeaps kk_BadStep_BadStep kk_BadStep_BadPlan kk_BadStep_BadMany kk_BadStep_TooGreat kk_BadStep_Full kk_BadStep_InvalidText) (all7 kk_BadPlan_BadHeaps kk_BadPlan_BadStep kk_BadPlan_BadPlan kk_BadPlan_BadMany kk_BadPlan_TooGreat kk_BadPlan_Full kk_BadPlan_InvalidText) (all7 kk_BadMany_BadHeaps kk_BadMany_BadStep kk_BadMany_BadPlan kk_BadMany_BadMany kk_BadMany_TooGreat kk_BadMany_Full kk_BadMany_InvalidText) (all7 kk_TooGreat_BadHeaps kk_TooGreat_BadStep kk_TooGreat_BadPlan kk_TooGreat_BadMany kk_TooGreat_TooGreat kk_TooGreat_Full kk_TooGreat_InvalidText) (all7 kk_Full_BadHeaps kk_Full_BadStep kk_Full_BadPlan kk_Full_BadMany kk_Full_TooGreat kk_Full_Full kk_Full_InvalidText) (all7 kk_InvalidText_BadHeaps kk_InvalidText_BadStep kk_InvalidText_BadPlan kk_InvalidText_BadMany kk_InvalidText_TooGreat kk_InvalidText_Full kk_InvalidText_InvalidText)), all7 kv_BadHeaps kv_BadStep kv_BadPlan kv_BadMany kv_TooGreat kv_Full kv_InvalidText, all7 (PySem.W.exm_ref eC_HE hC_HE tC_HE sH_BadHeaps) (PySem.W.exm_ref eC_HE hC_HE tC_HE sH_BadStep) (PySem.W.exm_ref eC_HE hC_HE tC_HE sH_BadPlan) (PySem.W.exm_ref eC_HE hC_HE tC_HE sH_BadMany) (PySem.W.exm_ref eC_HE hC_HE tC_HE sH_TooGreat) (PySem.W.exm_ref eC_HE hC_HE tC_HE sH_Full) (PySem.W.exm_ref eC_HE hC_HE tC_HE sH_InvalidText)⟩
  refine ⟨PySem.W.fnOf "law" "law" (defArgs s_law) (defBody s_law) (defScope s_law) .none kV_law dc_law pm_law an_law cd_law ct_law, fun s v => .of_eq rfl, fun base KB GB => ?_⟩
  have C_is_integer : Cal l.prog w K mg base CX0 1 "is_integer" ["value", "least", "greatest"] (spIsInt K) := ⟨_, _, PySem.W.mg_of X G a_is_integer, k_is_integer, b_is_integer, ok_is_integer F_is_integer T⟩
  have C_is_heaps : Cal l.prog w K mg base CX0 2 "is_heaps" ["value"] (spIsHeaps K) := ⟨_, _, PySem.W.mg_of X G a_is_heaps, k_is_heaps, b_is_heaps, ok_is_heaps F_is_heaps T C_is_integer⟩
  have C_check_heaps : Cal l.prog w K mg base (L2N.CX l.prog w) 3 "check_heaps" ["heaps"] (spChkHeapsD K A_BadHeaps) := ⟨_, _, PySem.W.mg_of X G a_check_heaps, k_check_heaps, b_check_heaps, ok_check_heaps F_check_heaps T B_BadHeaps C_is_heaps⟩
  have C_check_heapsG : Cal l.prog w K mg base CX0 3 "check_heaps" ["heaps"] (spChkHeaps K) := Cal.calm C_check_heaps fun _ _ _ _ => chk_good
  have C_is_pair_of : Cal l.prog w K mg base CX0 2 "is_pair_of" ["many", "value"] (spIsPair K) := ⟨_, _, PySem.W.mg_of X G a_is_pair_of, k_is_pair_of, b_is_pair_of, ok_is_pair_of F_is_pair_of T C_is_integer⟩
  have C_can_be_made : Cal l.prog w K mg base CX0 1 "can_be_made" ["heaps", "step"] (spCan K) := ⟨_, _, PySem.W.mg_of X G a_can_be_made, k_can_be_made, b_can_be_made, ok_can_be_made F_can_be_made⟩
  have C_pairs_of : Cal l.prog w K mg base CX0 1 "pairs_of" ["many"] (spPairs K) := ⟨_, _, PySem.W.mg_of X G a_pairs_of, k_pairs_of, b_pairs_of, ok_pairs_of F_pairs_of T⟩
  have C_steps_from : Cal l.prog w K mg base CX0 2 "steps_from" ["heaps"] (spSteps K) := ⟨_, _, PySem.W.mg_of X G a_steps_from, k_steps_from, b_steps_from, ok_steps_from F_steps_from T C_pairs_of C_can_be_made⟩
  have C_shifted : Cal l.prog w K mg base CX0 1 "shifted" ["heaps", "step", "many"] (spShiftedZ K) := ⟨_, _, PySem.W.mg_of X G a_shifted, k_shifted, b_shifted, ok_shifted F_shifted T⟩
  have C_behind : Cal l.prog w K mg base CX0 2 "behind" ["heaps", "step"] (spBehindZ K) := ⟨_, _, PySem.W.mg_of X G a_behind, k_behind, b_behind, ok_behind F_behind C_shifted⟩
  have C_behindS : Cal l.prog w K mg base CX0 2 "behind" ["heaps", "step"] (spBehind K) := Cal.thaw C_behind fun _ _ _ _ => thaw_behind
  have C_check_step : Cal l.prog w K mg base (L2N.CX l.prog w) 3 "check_step" ["heaps", "step"] (spChkStep K A_BadStep) := ⟨_, _, PySem.W.mg_of X G a_check_step, k_check_step, b_check_step, ok_check_step F_check_step T B_BadStep C_is_pair_of C_can_be_made⟩
  have BP : BpT l.prog w K mg base A_BadPlan := ⟨PySem.W.mg_of X G x_BadPlan, ⟨⟨nm_BadPlan, q_BadPlan, N_BadPlan, bs_BadPlan, _, sn_BadPlan, sub_BadPlan, ab_BadPlan, col_BadPlan, dd_BadPlan, m0_BadPlan, m1_BadPlan, m2_BadPlan, m3_BadPlan, m5_BadPlan, xL_BadPlan, rfl⟩, sa_BadPlan, eC_BadPlan, tC_BadPlan, kC_BadPlan⟩, nb_BadPlan_index, ⟨_, _, a_BadPlan_init, t_BadPlan_init, b_BadPlan_init, ok_bp_init F_BadPlan_init⟩⟩
  have C_check_plan : Cal l.prog w K mg base (L2N.CX l.prog w) 3 "check_plan" ["many", "plan"] (spChkPlanD K A_BadPlan) := ⟨_, _, PySem.W.mg_of X G a_check_plan, k_check_plan, b_check_plan, ok_check_planD F_check_plan T ⟨_, PySem.W.mg_of X G w_LONGEST_PLAN⟩ BP C_is_pair_of⟩
  have C_steps : Cal l.prog w K mg base (L2N.CX l.prog w) 4 "steps" ["heaps"] (spStepsX K A_BadHeaps) := ⟨_, _, PySem.W.mg_of X G a_steps, k_steps, b_steps, ok_steps F_steps C_check_heaps C_steps_from⟩
  have C_stepped : Cal l.prog w K mg base (L2N.CX l.prog w) 4 "stepped" ["heaps", "step"] (spSteppedX K A_BadHeaps A_BadStep) := ⟨_, _, PySem.W.mg_of X G a_stepped, k_stepped, b_stepped, ok_stepped F_stepped C_check_heaps C_check_step C_behindS⟩
  have C_judge : Cal l.prog w K mg base (L2N.CX l.prog w) 4 "judge" ["heaps", "plan"] (spJudgeX K A_BadHeaps A_BadPlan) := ⟨_, _, PySem.W.mg_of X G a_judge, k_judge, b_judge, ok_judge F_judge T C_check_heaps C_check_plan C_can_be_made C_behindS⟩
  have C_Desk_init : CalN l.prog w K mg base CX0 4 A_Desk "Desk" ["self", "heaps"] (spInit K A_Desk) := ⟨_, _, PySem.W.mg_of X G x_Desk, ⟨mk_Desk, a_Desk_init, i_Desk_init, kc_Desk⟩, b_Desk_init, ok_Desk_init F_Desk_init D C_check_heapsG⟩
  have C_Desk_move : CalM l.prog w K mg base (L2N.CX l.prog w) 4 A_Desk "move" ["self", "one", "other"] (spMove K A_Desk A_BadStep A_Full) := ⟨_, _, ⟨a_Desk_move, i_Desk_move, k_Desk_move⟩, b_Desk_move, ok_Desk_move F_Desk_move D ⟨_, PySem.W.mg_of X G w_MOST_STEPS⟩ B_Full C_check_step C_behind⟩
  have C_split_twos : Cal l.prog w K mg base CX0 1 "split_twos" ["number"] (spSplit) := ⟨_, _, PySem.W.mg_of X G a_split_twos, k_split_twos, b_split_twos, ok_split_twos F_split_twos⟩
  have C_reduced_parts : Cal l.prog w K mg base CX0 2 "reduced_parts" ["numbers"] (spRed K) := ⟨_, _, PySem.W.mg_of X G a_reduced_parts, k_reduced_parts, b_reduced_parts, ok_reduced_parts F_reduced_parts Z (PySem.W.mg_of X G x_gcd) C_split_twos⟩
  have C_power_of_two : Cal l.prog w K mg base CX0 1 "power_of_two" ["exponent", "modulus"] (spPow) := ⟨_, _, PySem.W.mg_of X G a_power_of_two, k_power_of_two, b_power_of_two, ok_power_of_two F_power_of_two⟩
  have C_check_two : Cal l.prog w K mg base (L2N.CX l.prog w) 4 "check_two" ["heaps"] (spChk2X K A_BadHeaps) := ⟨_, _, PySem.W.mg_of X G a_check_two, k_check_two, b_check_two, ok_check_two F_check_two T B_BadHeaps C_check_heaps⟩
  have C_ends_after : Cal l.prog w K mg base (L2N.CX l.prog w) 5 "ends_after" ["heaps"] (spEndsX K A_BadHeaps) := ⟨_, _, PySem.W.mg_of X G a_ends_after, k_ends_after, b_ends_after, ok_ends_after F_ends_after C_check_two C_reduced_parts⟩
  have C_ends_afterG : Cal l.prog w K mg base CX0 5 "ends_after" ["heaps"] (spEnds K) := Cal.calm C_ends_after fun _ _ _ _ => ends_good
  have C_after : Cal l.prog w K mg base (L2N.CX l.prog w) 6 "after" ["heaps", "many"] (spAfterX K A_BadHeaps A_BadMany) := ⟨_, _, PySem.W.mg_of X G a_after, k_after, b_after, ok_after F_after T B_BadMany C_check_two C_is_integer C_ends_afterG C_power_of_two⟩
  have C_origins : Cal l.prog w K mg base CX0 3 "origins" ["front"] (spOrigins K) := ⟨_, _, PySem.W.mg_of X G a_origins, k_origins, b_origins, ok_origins F_origins C_steps_from C_behindS⟩
  have C_fronts : CalG l.prog w K mg base 4 "fronts" ["heaps"] (spFronts K) := ⟨⟨_, _, PySem.W.mg_of X G a_fronts, k_fronts, b_fronts, ok_fronts F_fronts C_origins⟩⟩
  have C_check_small : Cal l.prog w K mg base (L2N.CX l.prog w) 4 "check_small" ["heaps"] (spChkSmall K A_BadHeaps A_TooGreat) := ⟨_, _, PySem.W.mg_of X G a_check_small, k_check_small, b_check_small, ok_check_small F_check_small TS B_TooGreat C_check_heaps⟩
  have C_fewest : Cal l.prog w K mg base (L2N.CX l.prog w) 7 "fewest" ["heaps"] (spFewest K A_BadHeaps A_TooGreat) := ⟨_, _, PySem.W.mg_of X G a_fewest, k_fewest, b_fewest, ok_fewest F_fewest TS C_check_small C_fronts⟩
  have B : ItT l.prog w K mg base A_InvalidText := ⟨PySem.W.mg_of X G x_InvalidText, ⟨⟨nm_InvalidText, q_InvalidText, N_InvalidText, bs_InvalidText, _, sn_InvalidText, sub_InvalidText, ab_InvalidText, col_InvalidText, dd_InvalidText, m0_InvalidText, m1_InvalidText, m2_InvalidText, m3_InvalidText, m5_InvalidText, xL_InvalidText, rfl⟩, sa_InvalidText, eC_InvalidText, tC_InvalidText, kC_InvalidText⟩, nb_InvalidText_line, nb_InvalidText_word, ⟨_, _, a_InvalidText_init, t_InvalidText_init, b_InvalidText_init, ok_it_init F_InvalidText_init⟩⟩
  have C_is_number : Cal l.prog w K mg base CX0 1 "is_number" ["word", "greatest"] (spIsNumber) := ⟨_, _, PySem.W.mg_of X G a_is_number, k_is_number, b_is_number, ok_is_number F_is_number TT⟩
  have C_words_of : Cal l.prog w K mg base CX0 1 "words_of" ["line"] (spWords K) := ⟨_, _, PySem.W.mg_of X G a_words_of, k_words_of, b_words_of, ok_words_of F_words_of TT⟩
  have C_numbers_behind : Cal l.prog w K mg base CX0 1 "numbers_behind" ["words"] (spNums K) := ⟨_, _, PySem.W.mg_of X G a_numbers_behind, k_numbers_behind, b_numbers_behind, ok_numbers_behind F_numbers_behind TT⟩
  have C_wrong_in_heaps : Cal l.prog w K mg base CX0 2 "wrong_in_heaps" ["words"] (spWrongH K) := ⟨_, _, PySem.W.mg_of X G a_wrong_in_heaps, k_wrong_in_heaps, b_wrong_in_heaps, ok_wrong_in_heaps F_wrong_in_heaps TT C_is_number C_numbers_behind⟩
  have C_wrong_in_step : Cal l.prog w K mg base CX0 2 "wrong_in_step" ["many", "words"] (spWrongS K) := ⟨_, _, PySem.W.mg_of X G a_wrong_in_step, k_wrong_in_step, b_wrong_in_step, ok_wrong_in_step F_wrong_in_step TT C_is_number⟩
  have C_read_heaps : Cal l.prog w K mg base (L2N.CX l.prog w) 4 "read_heaps" ["words"] (spRdH K A_InvalidText) := ⟨_, _, PySem.W.mg_of X G a_read_heaps, k_read_heaps, b_read_heaps, ok_read_heaps F_read_heaps B C_wrong_in_heaps C_numbers_behind⟩
  have C_read_plan : Cal l.prog w K mg base (L2N.CX l.prog w) 5 "read_plan" ["text"] (spRead K A_InvalidText) := ⟨_, _, PySem.W.mg_of X G a_read_plan, k_read_plan, b_read_plan, ok_read_plan F_read_plan TT ⟨_, PySem.W.mg_of X G w_LONGEST_PLAN⟩ B C_words_of C_read_heaps C_wrong_in_step C_numbers_behind⟩
  have C_l_mix : Cal l.prog w K mg base CX0 1 "_law_mix" ["_law_script", "_law_seed"] (spMix K) := ⟨_, _, PySem.W.mg_of X G a_l_mix, k_l_mix, b_l_mix, ok_mix F_l_mix U⟩
  have C_l_next : Cal l.prog w K mg base CX0 1 "_law_next" ["_law_h", "_law_bound"] (spNext) := ⟨_, _, PySem.W.mg_of X G a_l_next, k_l_next, b_l_next, ok_next F_l_next U⟩
  have C_l_which : ∀ cls d, FnE l.prog w K mg base 2 f_l_which _ ["_law_e"] cls d (spWhich (sev A_BadHeaps A_BadStep A_BadPlan A_BadMany A_TooGreat A_Full A_InvalidText) cls d) := fun _ _ => ok_l_which F_l_which Z G7
  have C_l_do : Cal l.prog w K mg base (L2N.CX l.prog w) 8 "_law_do" ["_law_kind", "_law_n"] (spDo (sev A_BadHeaps A_BadStep A_BadPlan A_BadMany A_TooGreat A_Full A_InvalidText)) := ⟨_, _, PySem.W.mg_of X G a_l_do, k_l_do, b_l_do, ok_l_do F_l_do D C_steps C_stepped C_judge C_after C_fewest C_Desk_init C_Desk_move C_read_plan⟩
  exact ok_law F_law Z G7 ⟨ga_BadPlan, gg_BadPlan, eC_BadPlan, hC_BadPlan⟩ nb_BadPlan_index te_BadPlan ⟨ga_InvalidText, gg_InvalidText, eC_InvalidText, hC_InvalidText⟩ nb_InvalidText_line nb_InvalidText_word te_InvalidText C_l_which (PySem.W.mg_of X G a_l_which) k_l_which b_l_which C_l_mix C_l_next C_l_do
theorem walk {l : PySem.W.OpenLaw} {q : Program} {loose : List Str} {XP : (Str → Option Value) → Heap → Prop} {YP : World → Heap → Prop} {d : DefRec} {K : Params → PySem.W.Frag} (hn : l.most = some 63) (hdf : d.params.defaults = [])
    (hY : ∀ (w : World) (h : Heap), YP w h → (K w.params).In h)
    (F : ∀ (w : World) (mg : Str → Option Value) (fa : Addr) (h : Heap), (K w.params).In h → h.Ns mainGlobals mg → mg d.name = some (.ref fa) →
      ∃ fd : FuncData, (∀ (s : Shared) (u : Value), BindsTo s fd ⟨[u], []⟩ [("_law_script", u)]) ∧ ∀ base : Heap, (K w.params).In base → base.Ns mainGlobals mg → FnOk l.prog w (K w.params) mg base CX0 10 fa fd ["_law_script"] (spLaw (K w.params))) :
    PySem.W.WalkO q loose XP YP l.row.toRowW d [] (fun f vs => PySem.call f vs) :=
  L2.walk_of (n := 63) (k := 10) (x := "_law_script") (CX := fun _ => CX0) (sp := fun w => spLaw (K w.params)) hn (by decide) hdf ⟨rfl, by decide, by decide⟩ hY F (fun _ _ a ns hl _ hS => ⟨a, ns, rfl, hS, hl, fun _ => rfl⟩) fun _ _ _ _ _ z => z
end Hd
open PySem PySem.W PyProof.Rows
set_option maxRecDepth 100000 in
set_option maxHeartbeats 0 in
theorem PySem.Challenge.cw_heapsdouble_k10_errors_apart_holds : PySem.Challenge.rw_heapsdouble_k10_errors_apart.Holds := by
  w_on; o_law; k_head; (case hw => w_witness2)
  k_fill
  refine Hd.walk (l := PySem.Challenge.rw_heapsdouble_k10_errors_apart) rfl rfl (fun w h Y => PySem.W.kIn_of Y) ?F
  case F =>
    intro w mg fa h KX G hmg
    refine' Hd.all_mk KX G hmg ?x_BadHeaps ?xL_BadHeaps ?iHI_BadHeaps ?tI ?lI ?cI ?lcda ?hvs ?hfile ?lcc ?hD ?thr ?topN ?z_super ?supI_BadHeaps ?mroI_BadHeaps ?veI_BadHeaps ?xinI_BadHeaps ?kC_BadHeaps ?eC_BadHeaps ?tC_BadHeaps ?iC_BadHeaps ?sC_BadHeaps ?x_BadStep ?xL_BadStep ?iHI_BadStep ?supI_BadStep ?mroI_BadStep ?veI_BadStep ?xinI_BadStep ?kC_BadStep ?eC_BadStep ?tC_BadStep ?iC_BadStep ?sC_BadStep ?x_BadMany ?xL_BadMany ?iHI_BadMany ?supI_BadMany ?mroI_BadMany ?veI_BadMany ?xinI_BadMany ?kC_BadMany ?eC_BadMany ?tC_BadMany ?iC_BadMany ?sC_BadMany ?x_TooGreat ?xL_TooGreat ?iHI_TooGreat ?supI_TooGreat ?mroI_TooGreat ?veI_TooGreat ?xinI_TooGreat ?kC_TooGreat ?eC_TooGreat ?tC_TooGreat ?iC_TooGreat ?sC_TooGreat ?x_Full ?xL_Full ?iHI_Full ?supI_Full ?mroI_Full ?veI_Full ?xinI_Full ?kC_Full ?eC_Full ?tC_Full ?iC_Full ?sC_Full ?x_BadPlan ?xL_BadPlan ?sa_BadPlan ?ga_BadPlan ?gg_BadPlan ?nb_BadPlan_index ?kC_BadPlan ?eC_BadPlan ?tC_BadPlan ?hC_BadPlan ?iC_BadPlan ?sC_BadPlan ?x_InvalidText ?xL_InvalidText ?sa_InvalidText ?ga_InvalidText ?gg_InvalidText ?nb_InvalidText_line ?nb_InvalidText_word ?kC_InvalidText ?eC_InvalidText ?tC_InvalidText ?hC_InvalidText ?iC_InvalidText ?sC_InvalidText ?x_HeapError ?x_gcd ?z_ValueError ?eC_HE ?hC_HE ?tC_HE ?hn_cls ?ht_cls ?sH_BadHeaps ?ga_BadHeaps ?gg_BadHeaps ?hC_BadHeaps ?ha_BadHeaps ?hm_BadHeaps ?kv_BadHeaps ?kk_BadHeaps_BadHeaps ?kk_BadHeaps_BadStep ?kk_BadHeaps_BadPlan ?kk_BadHeaps_BadMany ?kk_BadHeaps_TooGreat ?kk_BadHeaps_Full ?kk_BadHeaps_InvalidText ?sH_BadStep ?ga_BadStep ?gg_BadStep ?hC_BadStep ?ha_BadStep ?hm_BadStep ?kv_BadStep ?kk_BadStep_BadHeaps ?kk_BadStep_BadStep ?kk_BadStep_BadPlan ?kk_BadStep_BadMany ?kk_BadStep_TooGreat ?kk_BadStep_Full ?kk_BadStep_InvalidText ?sH_BadPlan ?ha_BadPlan ?hm_BadPlan ?kv_BadPlan ?kk_BadPlan_BadHeaps ?kk_BadPlan_BadStep ?kk_BadPlan_BadPlan ?kk_BadPlan_BadMany ?kk_BadPlan_TooGreat ?kk_BadPlan_Full ?kk_BadPlan_InvalidText ?sH_BadMany ?ga_BadMany ?gg_BadMany ?hC_BadMany ?ha_BadMany ?hm_BadMany ?kv_BadMany ?kk_BadMany_BadHeaps ?kk_BadMany_BadStep ?kk_BadMany_BadPlan ?kk_BadMany_BadMany ?kk_BadMany_TooGreat ?kk_BadMany_Full ?kk_BadMany_InvalidText ?sH_TooGreat ?ga_TooGreat ?gg_TooGreat ?hC_TooGreat ?ha_TooGreat ?hm_TooGreat ?kv_TooGreat ?kk_TooGreat_BadHeaps ?kk_TooGreat_BadStep ?kk_TooGreat_BadPlan ?kk_TooGreat_BadMany ?kk_TooGreat_TooGreat ?kk_TooGreat_Full ?kk_TooGreat_InvalidText ?sH_Full ?ga_Full ?gg_Full ?hC_Full ?ha_Full ?hm_Full ?kv_Full ?kk_Full_BadHeaps ?kk_Full_BadStep ?kk_Full_BadPlan ?kk_Full_BadMany ?kk_Full_TooGreat ?kk_Full_Full ?kk_Full_InvalidText ?sH_InvalidText ?ha_InvalidText ?hm_InvalidText ?kv_InvalidText ?kk_InvalidText_BadHeaps ?kk_InvalidText_BadStep ?kk_InvalidText_BadPlan ?kk_InvalidText_BadMany ?kk_InvalidText_TooGreat ?kk_InvalidText_Full ?kk_InvalidText_InvalidText ?x_Desk ?pg_Desk ?hd_Desk ?po_Desk ?sa_Desk ?mk_Desk ?kc_Desk ?na_Desk__stands ?na_Desk__steps ?a_is_integer ?l_is_integer ?c_is_integer ?k_is_integer ?a_is_heaps ?l_is_heaps ?c_is_heaps ?k_is_heaps ?a_check_heaps ?l_check_heaps ?c_check_heaps ?k_check_heaps ?a_is_pair_of ?l_is_pair_of ?c_is_pair_of ?k_is_pair_of ?a_can_be_made ?l_can_be_made ?c_can_be_made ?k_can_be_made ?a_pairs_of ?l_pairs_of ?c_pairs_of ?k_pairs_of ?a_steps_from ?l_steps_from ?c_steps_from ?k_steps_from ?a_shifted ?l_shifted ?c_shifted ?k_shifted ?a_behind ?l_behind ?c_behind ?k_behind ?a_check_step ?l_check_step ?c_check_step ?k_check_step ?a_BadPlan_init ?t_BadPlan_init ?l_BadPlan_init ?c_BadPlan_init ?k_BadPlan_init ?a_check_plan ?l_check_plan ?c_check_plan ?k_check_plan ?a_steps ?l_steps ?c_steps ?k_steps ?a_stepped ?l_stepped ?c_stepped ?k_stepped ?a_judge ?l_judge ?c_judge ?k_judge ?a_Desk_init ?i_Desk_init ?l_Desk_init ?c_Desk_init ?k_Desk_init ?a_Desk_move ?i_Desk_move ?l_Desk_move ?c_Desk_move ?k_Desk_move ?a_split_twos ?l_split_twos ?c_split_twos ?k_split_twos ?a_reduced_parts ?l_reduced_parts ?c_reduced_parts ?k_reduced_parts ?a_power_of_two ?l_power_of_two ?c_power_of_two ?k_power_of_two ?a_check_two ?l_check_two ?c_check_two ?k_check_two ?a_ends_after ?l_ends_after ?c_ends_after ?k_ends_after ?a_after ?l_after ?c_after ?k_after ?a_origins ?l_origins ?c_origins ?k_origins ?a_fronts ?l_fronts ?c_fronts ?k_fronts ?a_check_small ?l_check_small ?c_check_small ?k_check_small ?a_fewest ?l_fewest ?c_fewest ?k_fewest ?a_InvalidText_init ?t_InvalidText_init ?l_InvalidText_init ?c_InvalidText_init ?k_InvalidText_init ?a_is_number ?l_is_number ?c_is_number ?k_is_number ?a_words_of ?l_words_of ?c_words_of ?k_words_of ?a_numbers_behind ?l_numbers_behind ?c_numbers_behind ?k_numbers_behind ?a_wrong_in_heaps ?l_wrong_in_heaps ?c_wrong_in_heaps ?k_wrong_in_heaps ?a_wrong_in_step ?l_wrong_in_step ?c_wrong_in_step ?k_wrong_in_step ?a_read_heaps ?l_read_heaps ?c_read_heaps ?k_read_heaps ?a_read_plan ?l_read_plan ?c_read_plan ?k_read_plan ?a_l_mix ?l_l_mix ?c_l_mix ?k_l_mix ?a_l_next ?l_l_next ?c_l_next ?k_l_next ?a_l_which ?l_l_which ?c_l_which ?k_l_which ?a_l_do ?l_l_do ?c_l_do ?k_l_do ?a_law ?l_law ?c_law ?k_law ?z_int ?z_bool ?z_list ?z_len ?z_tuple ?z_isinstance ?z_all ?z_any ?z_sum ?z_enumerate ?z_range ?z_sorted ?z_set ?z_max ?z_min ?z_str ?w_FEWEST_HEAPS ?w_MOST_HEAPS ?w_GREATEST ?w_LONGEST_PLAN ?w_MOST_STEPS ?w_MOST_SMALL_HEAPS ?w_GREATEST_SMALL_SUM ?w_HEAPS_WORD ?w_STEP_WORD
    (case x_BadHeaps => k_is)
    (case xL_BadHeaps => k_is)
    (case iHI_BadHeaps => k_is)
    (case tI => k_is)
    (case lI => k_is)
    (case cI => k_is)
    (case lcda => k_is)
    (case hvs => rfl)
    (case hfile => first | rfl | decide +kernel)
    (case lcc => k_is)
    (case hD => k_is)
    (case thr => k_is)
    (case topN => first | rfl | decide +kernel)
    (case z_super => k_is)
    (case supI_BadHeaps => ks_is)
    (case mroI_BadHeaps => k_is)
    (case veI_BadHeaps => k_is)
    (case xinI_BadHeaps => kx_is)
    (case kC_BadHeaps => k_is)
    (case eC_BadHeaps => k_is)
    (case tC_BadHeaps => k_is)
    (case iC_BadHeaps => k_is)
    (case sC_BadHeaps => first | rfl | k_is)
    (case x_BadStep => k_is)
    (case xL_BadStep => k_is)
    (case iHI_BadStep => k_is)
    (case supI_BadStep => ks_is)
    (case mroI_BadStep => k_is)
    (case veI_BadStep => k_is)
    (case xinI_BadStep => kx_is)
    (case kC_BadStep => k_is)
    (case eC_BadStep => k_is)
    (case tC_BadStep => k_is)
    (case iC_BadStep => k_is)
    (case sC_BadStep => first | rfl | k_is)
    (case x_BadMany => k_is)
    (case xL_BadMany => k_is)
    (case iHI_BadMany => k_is)
    (case supI_BadMany => ks_is)
    (case mroI_BadMany => k_is)
    (case veI_BadMany => k_is)
    (case xinI_BadMany => kx_is)
    (case kC_BadMany => k_is)
    (case eC_BadMany => k_is)
    (case tC_BadMany => k_is)
    (case iC_BadMany => k_is)
    (case sC_BadMany => first | rfl | k_is)
    (case x_TooGreat => k_is)
    (case xL_TooGreat => k_is)
    (case iHI_TooGreat => k_is)
    (case supI_TooGreat => ks_is)
    (case mroI_TooGreat => k_is)
    (case veI_TooGreat => k_is)
    (case xinI_TooGreat => kx_is)
    (case kC_TooGreat => k_is)
    (case eC_TooGreat => k_is)
    (case tC_TooGreat => k_is)
    (case iC_TooGreat => k_is)
    (case sC_TooGreat => first | rfl | k_is)
    (case x_Full => k_is)
    (case xL_Full => k_is)
    (case iHI_Full => k_is)
    (case supI_Full => ks_is)
    (case mroI_Full => k_is)
    (case veI_Full => k_is)
    (case xinI_Full => kx_is)
    (case kC_Full => k_is)
    (case eC_Full => k_is)
    (case tC_Full => k_is)
    (case iC_Full => k_is)
    (case sC_Full => first | rfl | k_is)
    (case x_BadPlan => k_is)
    (case xL_BadPlan => k_is)
    (case sa_BadPlan => k_is)
    (case ga_BadPlan => k_is)
    (case gg_BadPlan => k_is)
    (case nb_BadPlan_index => k_is)
    (case kC_BadPlan => k_is)
    (case eC_BadPlan => k_is)
    (case tC_BadPlan => k_is)
    (case hC_BadPlan => k_is)
    (case iC_BadPlan => k_is)
    (case sC_BadPlan => first | rfl | k_is)
    (case x_InvalidText => k_is)
    (case xL_InvalidText => k_is)
    (case sa_InvalidText => k_is)
    (case ga_InvalidText => k_is)
    (case gg_InvalidText => k_is)
    (case nb_InvalidText_line => k_is)
    (case nb_InvalidText_word => k_is)
    (case kC_InvalidText => k_is)
    (case eC_InvalidText => k_is)
    (case tC_InvalidText => k_is)
    (case hC_InvalidText => k_is)
    (case iC_InvalidText => k_is)
    (case sC_InvalidText => first | rfl | k_is)
    (case x_HeapError => k_is)
    (case x_gcd => k_is)
    (case z_ValueError => k_is)
    (case eC_HE => k_is)
    (case hC_HE => k_is)
    (case tC_HE => k_is)
    (case hn_cls => k_is)
    (case ht_cls => k_is)
    (case sH_BadHeaps => first | rfl | k_is)
    (case ga_BadHeaps => k_is)
    (case gg_BadHeaps => k_is)
    (case hC_BadHeaps => k_is)
    (case ha_BadHeaps => k_is)
    (case hm_BadHeaps => k_is)
    (case kv_BadHeaps => kit_is)
    (case kk_BadHeaps_BadHeaps => kit_is)
    (case kk_BadHeaps_BadStep => kit_is)
    (case kk_BadHeaps_BadPlan => kit_is)
    (case kk_BadHeaps_BadMany => kit_is)
    (case kk_BadHeaps_TooGreat => kit_is)
    (case kk_BadHeaps_Full => kit_is)
    (case kk_BadHeaps_InvalidText => kit_is)
    (case sH_BadStep => first | rfl | k_is)
    (case ga_BadStep => k_is)
    (case gg_BadStep => k_is)
    (case hC_BadStep => k_is)
    (case ha_BadStep => k_is)
    (case hm_BadStep => k_is)
    (case kv_BadStep => kit_is)
    (case kk_BadStep_BadHeaps => kit_is)
    (case kk_BadStep_BadStep => kit_is)
    (case kk_BadStep_BadPlan => kit_is)
    (case kk_BadStep_BadMany => kit_is)
    (case kk_BadStep_TooGreat => kit_is)
    (case kk_BadStep_Full => kit_is)
    (case kk_BadStep_InvalidText => kit_is)
    (case sH_BadPlan => first | rfl | k_is)
    (case ha_BadPlan => k_is)
    (case hm_BadPlan => k_is)
    (case kv_BadPlan => kit_is)
    (case kk_BadPlan_BadHeaps => kit_is)
    (case kk_BadPlan_BadStep => kit_is)
    (case kk_BadPlan_BadPlan => kit_is)
    (case kk_BadPlan_BadMany => kit_is)
    (case kk_BadPlan_TooGreat => kit_is)
    (case kk_BadPlan_Full => kit_is)
    (case kk_BadPlan_InvalidText => kit_is)
    (case sH_BadMany => first | rfl | k_is)
    (case ga_BadMany => k_is)
    (case gg_BadMany => k_is)
    (case hC_BadMany => k_is)
    (case ha_BadMany => k_is)
    (case hm_BadMany => k_is)
    (case kv_BadMany => kit_is)
    (case kk_BadMany_BadHeaps => kit_is)
    (case kk_BadMany_BadStep => kit_is)
    (case kk_BadMany_BadPlan => kit_is)
    (case kk_BadMany_BadMany => kit_is)
    (case kk_BadMany_TooGreat => kit_is)
    (case kk_BadMany_Full => kit_is)
    (case kk_BadMany_InvalidText => kit_is)
    (case sH_TooGreat => first | rfl | k_is)
    (case ga_TooGreat => k_is)
    (case gg_TooGreat => k_is)
    (case hC_TooGreat => k_is)
    (case ha_TooGreat => k_is)
    (case hm_TooGreat => k_is)
    (case kv_TooGreat => kit_is)
    (case kk_TooGreat_BadHeaps => kit_is)
    (case kk_TooGreat_BadStep => kit_is)
    (case kk_TooGreat_BadPlan => kit_is)
    (case kk_TooGreat_BadMany => kit_is)
    (case kk_TooGreat_TooGreat => kit_is)
    (case kk_TooGreat_Full => kit_is)
    (case kk_TooGreat_InvalidText => kit_is)
    (case sH_Full => first | rfl | k_is)
    (case ga_Full => k_is)
    (case gg_Full => k_is)
    (case hC_Full => k_is)
    (case ha_Full => k_is)
    (case hm_Full => k_is)
    (case kv_Full => kit_is)
    (case kk_Full_BadHeaps => kit_is)
    (case kk_Full_BadStep => kit_is)
    (case kk_Full_BadPlan => kit_is)
    (case kk_Full_BadMany => kit_is)
    (case kk_Full_TooGreat => kit_is)
    (case kk_Full_Full => kit_is)
    (case kk_Full_InvalidText => kit_is)
    (case sH_InvalidText => first | rfl | k_is)
    (case ha_InvalidText => k_is)
    (case hm_InvalidText => k_is)
    (case kv_InvalidText => kit_is)
    (case kk_InvalidText_BadHeaps => kit_is)
    (case kk_InvalidText_BadStep => kit_is)
    (case kk_InvalidText_BadPlan => kit_is)
    (case kk_InvalidText_BadMany => kit_is)
    (case kk_InvalidText_TooGreat => kit_is)
    (case kk_InvalidText_Full => kit_is)
    (case kk_InvalidText_InvalidText => kit_is)
    (case x_Desk => k_is)
    (case pg_Desk => k_is)
    (case hd_Desk => k_is)
    (case po_Desk => k_is)
    (case sa_Desk => k_is)
    (case mk_Desk => k_is)
    (case kc_Desk => k_is)
    (case na_Desk__stands => k_is)
    (case na_Desk__steps => k_is)
    (case a_is_integer => k_is)
    (case l_is_integer => k_is)
    (case c_is_integer => k_is)
    (case k_is_integer => k_is)
    (case a_is_heaps => k_is)
    (case l_is_heaps => k_is)
    (case c_is_heaps => k_is)
    (case k_is_heaps => k_is)
    (case a_check_heaps => k_is)
    (case l_check_heaps => k_is)
    (case c_check_heaps => k_is)
    (case k_check_heaps => k_is)
    (case a_is_pair_of => k_is)
    (case l_is_pair_of => k_is)
    (case c_is_pair_of => k_is)
    (case k_is_pair_of => k_is)
    (case a_can_be_made => k_is)
    (case l_can_be_made => k_is)
    (case c_can_be_made => k_is)
    (case k_can_be_made => k_is)
    (case a_pairs_of => k_is)
    (case l_pairs_of => k_is)
    (case c_pairs_of => k_is)
    (case k_pairs_of => k_is)
    (case a_steps_from => k_is)
    (case l_steps_from => k_is)
    (case c_steps_from => k_is)
    (case k_steps_from => k_is)
    (case a_shifted => k_is)
    (case l_shifted => k_is)
    (case c_shifted => k_is)
    (case k_shifted => k_is)
    (case a_behind => k_is)
    (case l_behind => k_is)
    (case c_behind => k_is)
    (case k_behind => k_is)
    (case a_check_step => k_is)
    (case l_check_step => k_is)
    (case c_check_step => k_is)
    (case k_check_step => k_is)
    (case a_BadPlan_init => k_is)
    (case t_BadPlan_init => k_is)
    (case l_BadPlan_init => k_is)
    (case c_BadPlan_init => k_is)
    (case k_BadPlan_init => k_is)
    (case a_check_plan => k_is)
    (case l_check_plan => k_is)
    (case c_check_plan => k_is)
    (case k_check_plan => k_is)
    (case a_steps => k_is)
    (case l_steps => k_is)
    (case c_steps => k_is)
    (case k_steps => k_is)
    (case a_stepped => k_is)
    (case l_stepped => k_is)
    (case c_stepped => k_is)
    (case k_stepped => k_is)
    (case a_judge => k_is)
    (case l_judge => k_is)
    (case c_judge => k_is)
    (case k_judge => k_is)
    (case a_Desk_init => k_is)
    (case i_Desk_init => k_is)
    (case l_Desk_init => k_is)
    (case c_Desk_init => k_is)
    (case k_Desk_init => k_is)
    (case a_Desk_move => k_is)
    (case i_Desk_move => k_is)
    (case l_Desk_move => k_is)
    (case c_Desk_move => k_is)
    (case k_Desk_move => k_is)
    (case a_split_twos => k_is)
    (case l_split_twos => k_is)
    (case c_split_twos => k_is)
    (case k_split_twos => k_is)
    (case a_reduced_parts => k_is)
    (case l_reduced_parts => k_is)
    (case c_reduced_parts => k_is)
    (case k_reduced_parts => k_is)
    (case a_power_of_two => k_is)
    (case l_power_of_two => k_is)
    (case c_power_of_two => k_is)
    (case k_power_of_two => k_is)
    (case a_check_two => k_is)
    (case l_check_two => k_is)
    (case c_check_two => k_is)
    (case k_check_two => k_is)
    (case a_ends_after => k_is)
    (case l_ends_after => k_is)
    (case c_ends_after => k_is)
    (case k_ends_after => k_is)
    (case a_after => k_is)
    (case l_after => k_is)
    (case c_after => k_is)
    (case k_after => k_is)
    (case a_origins => k_is)
    (case l_origins => k_is)
    (case c_origins => k_is)
    (case k_origins => k_is)
    (case a_fronts => k_is)
    (case l_fronts => k_is)
    (case c_fronts => k_is)
    (case k_fronts => k_is)
    (case a_check_small => k_is)
    (case l_check_small => k_is)
    (case c_check_small => k_is)
    (case k_check_small => k_is)
    (case a_fewest => k_is)
    (case l_fewest => k_is)
    (case c_fewest => k_is)
    (case k_fewest => k_is)
    (case a_InvalidText_init => k_is)
    (case t_InvalidText_init => k_is)
    (case l_InvalidText_init => k_is)
    (case c_InvalidText_init => k_is)
    (case k_InvalidText_init => k_is)
    (case a_is_number => k_is)
    (case l_is_number => k_is)
    (case c_is_number => k_is)
    (case k_is_number => k_is)
    (case a_words_of => k_is)
    (case l_words_of => k_is)
    (case c_words_of => k_is)
    (case k_words_of => k_is)
    (case a_numbers_behind => k_is)
    (case l_numbers_behind => k_is)
    (case c_numbers_behind => k_is)
    (case k_numbers_behind => k_is)
    (case a_wrong_in_heaps => k_is)
    (case l_wrong_in_heaps => k_is)
    (case c_wrong_in_heaps => k_is)
    (case k_wrong_in_heaps => k_is)
    (case a_wrong_in_step => k_is)
    (case l_wrong_in_step => k_is)
    (case c_wrong_in_step => k_is)
    (case k_wrong_in_step => k_is)
    (case a_read_heaps => k_is)
    (case l_read_heaps => k_is)
    (case c_read_heaps => k_is)
    (case k_read_heaps => k_is)
    (case a_read_plan => k_is)
    (case l_read_plan => k_is)
    (case c_read_plan => k_is)
    (case k_read_plan => k_is)
    (case a_l_mix => k_is)
    (case l_l_mix => k_is)
    (case c_l_mix => k_is)
    (case k_l_mix => k_is)
    (case a_l_next => k_is)
    (case l_l_next => k_is)
    (case c_l_next => k_is)
    (case k_l_next => k_is)
    (case a_l_which => k_is)
    (case l_l_which => k_is)
    (case c_l_which => k_is)
    (case k_l_which => k_is)
    (case a_l_do => k_is)
    (case l_l_do => k_is)
    (case c_l_do => k_is)
    (case k_l_do => k_is)
    (case a_law => k_is)
    (case l_law => k_is)
    (case c_law => k_is)
    (case k_law => k_is)
    (case z_int => k_is)
    (case z_bool => k_is)
    (case z_list => k_is)
    (case z_len => k_is)
    (case z_tuple => k_is)
    (case z_isinstance => k_is)
    (case z_all => k_is)
    (case z_any => k_is)
    (case z_sum => k_is)
    (case z_enumerate => k_is)
    (case z_range => k_is)
    (case z_sorted => k_is)
    (case z_set => k_is)
    (case z_max => k_is)
    (case z_min => k_is)
    (case z_str => k_is)
    (case w_FEWEST_HEAPS => k_is)
    (case w_MOST_HEAPS => k_is)
    (case w_GREATEST => k_is)
    (case w_LONGEST_PLAN => k_is)
    (case w_MOST_STEPS => k_is)
    (case w_MOST_SMALL_HEAPS => k_is)
    (case w_GREATEST_SMALL_SUM => k_is)
    (case w_HEAPS_WORD => k_is)
    (case w_STEP_WORD => k_is)
