import PyProof.Rows.All
import Wide.All
import OpenK.AllK
import Wide.FinOn
import HandS.ForMost
import HandS.Style
import HandS.RevRange
import HandS.TupSets
import HandS.MakeKwOnly
import HandS.SetBool
import HandS.TupLe
import HandS.TupAny
import HandS.IsInst
import HandS.Deep
import HandS.ExcInit
import HandS.ExcIs
import HandS.ExcField
import HandS.TryOnly
import HandS.FStr
import HandS.ExcOwn
import HandS.WordsExc
import KE.KExcSuper
import KE.RegKSuper
import KE.KExcIs
import PySem.Challenge.RW_caisson_k01_shapes
set_option Elab.async false
set_option maxRecDepth 100000
namespace Cs
open PySem L2
/-! ### a def of two parameters with a __class__ cell, over ValueError: super().__init__(e) and then the rest -/
section
open PySem.W PySem.Calls
def cxS (CX : CXT) (P : Program) (w : World) (K : PySem.W.Frag) (mg : Str → Option Value) (base : Heap) (N : List Str) (qual : Str) (scope : Scope) (f : Addr) (cd : Value) (cc : Addr) (A : Around) (outer : List Env) (s : Shared) (H : Hp) (E : XK) : Cx where
  prog := P
  w := w
  K := K
  mg := mg
  base := base
  A := A.deeper (ksEnv qual scope s.heap.objs.size f cd cc)
  N := N
  s_0 := s
  H_0 := H
  env := ksEnv qual scope s.heap.objs.size f cd cc
  outer := outer
  stack := ksEnv qual scope s.heap.objs.size f cd cc :: outer
  ex := []
  calm := true
  fn := fun _ => false
  pn := []
  xe := fun e s' => wpAny (model P w) (A.deeper (ksEnv qual scope s.heap.objs.size f cd cc)) (leaving (ksEnv qual scope s.heap.objs.size f cd cc) e) (fun _ s'' => CX outer H s E e s'') (fun e' s'' => CX outer H s E e' s'') s'
structure ScS (x : Str) (sc : Scope) : Prop where
  kind : sc.kind = .function
  co : sc.isCoroutine = false
  gen : sc.isGenerator = false
  ne : x ≠ "self"
  self : sc.names.lookup ("self" : Str) = some .local
  par : sc.names.lookup x = some .local
  cls : sc.names.lookup ("__class__" : Str) = some .free
  sup : sc.names.lookup ("super" : Str) = some .globalImplicit
  nocell : ∀ y ∈ sc.names, y.2 ≠ .cell
  free : ∀ y ∈ sc.names, y.2 = .free → y.1 = "__class__"
theorem look1 {x : Str} {cc c : Addr} (h : List.lookup x [(("__class__" : Str), cc)] = some c) : x = "__class__" ∧ c = cc := by
  unfold List.lookup at h
  split at h
  · rename_i e
    exact ⟨by simpa using e, (Option.some.inj h).symm⟩
  · cases h
theorem inv_startS {CX : CXT} {P : Program} {w : World} {K : PySem.W.Frag} {mg : Str → Option Value} {base : Heap} {x : Str} {qual : Str} {scope : Scope} {f cc D : Addr} {cd cl : Value} {cld : Option Addr} {csl : Array (Option Value)} {A : Around} {outer : List Env} {s : Shared} {H : Hp} {E : XK}
    {u1 u2 : Value} {v1 v2 : V} {h1 : Heap} {t : Nat}
    (S : ScS x scope) (hd : A.handled = none) (e0 : Env0 P w K mg base A outer s H) (r1 : RelV v1 u1) (r2 : RelV v2 u2) (hc : K.lookup cc = some ⟨cl, cld, .cell (some (.ref D)), csl⟩)
    (hns : h1.Ns s.heap.objs.size (fun y => ([(("self" : Str), u1), (x, u2)] : List (Str × Value)).reverse.lookup y)) (hk : ∀ b o, s.heap.get? b = some o → h1.get? b = some o) :
    Inv (cxS CX P w K mg base ["self", x] qual scope f cd cc A outer s H E) [] [some v1, some v2] H { s with heap := h1, toks := t } := by
  have noA : ∀ b : Addr, b ∉ (cxS CX P w K mg base ["self", x] qual scope f cd cc A outer s H E).ex := fun b z => absurd (show b ∈ ([] : List Addr) from z) (by simp)
  have cb : base.get? cc = some ⟨cl, cld, .cell (some (.ref D)), csl⟩ := e0.mod.kin _ _ hc
  refine ⟨⟨e0.mod, S.kind, rfl, rfl, Nat.le_refl _, fun y z c h1 h2 => ?_, fun y hy => ?_, fun y c z _ => ?_, fun _ => hd, Around.frames_deeper e0.frames, .inr ⟨rfl, rfl⟩, fun b z => absurd z (noA b), e0.bs, e0.bsz, fun b _ _ => noA b, fun b z => absurd z (noA b), e0.funs, e0.frf⟩,
    rfl, e0.bare, Un.kept hk, ⟨_, hns, fun i y v h1 h2 h3 => ?_⟩, fun y c h => ?_, e0.hok.fresh (Nat.le_refl _), fun y c h => ?_, fun p hp => absurd (show p ∈ ([] : List (Addr × Obj)) from hp) (by simp), e0.hok.kept hk, rfl⟩
  · exact (look1 h1).1.trans (look1 h2).1.symm
  · have hy : scope.names.lookup y = some .cell ∨ scope.names.lookup y = some .free := hy
    rcases hy with hy | hy
    · exact absurd rfl (S.nocell _ (PySem.mem_of_lookup hy))
    · have e := S.free _ (PySem.mem_of_lookup hy) rfl
      dsimp only at e
      subst e
      exact ⟨cc, rfl⟩
  · exact absurd (show false = true from z) (by decide)
  · have ne : (x == ("self" : Str)) = false := by simpa using S.ne
    have ne2 : (("self" : Str) == x) = false := by
      have := S.ne
      simp only [beq_eq_false_iff_ne, ne_eq]
      exact fun z => this z.symm
    match i, h1, h2 with
    | 0, h1, h2 =>
      cases h1
      cases h2
      refine ⟨u1, r1, .inl ⟨S.self, ?_⟩⟩
      simp [List.lookup, ne2]
    | 1, h1, h2 =>
      cases h1
      cases h2
      refine ⟨u2, r2, .inl ⟨S.par, ?_⟩⟩
      simp [List.lookup]
    | n + 2, h1, h2 => exact absurd (show (([] : List Str)[n]?) = some y from h1) (by simp)
  · obtain ⟨rfl, rfl⟩ := look1 h
    exact ⟨_, _, hk _ _ (e0.bs _ _ cb).1, rfl⟩
  · obtain ⟨rfl, rfl⟩ := look1 h
    exact (e0.bs _ _ cb).2
/-- ValueError.__init__ bound to a, called -/
theorem mwcall_ok {X : Cx} {pins : List (Addr × Obj)} {σ : St} {H : Hp} {s : Shared} {A : Around} {E : Value → Shared → Prop} {us : List Value} {u a C : Addr} {Q : Value → Shared → Prop} (T : OexC X.K C) (I : Inv X pins σ H s) (e : H a = some (exo a C none)) (hu : s.heap.get? u = some (kxs_mw "ValueError.__init__" a)) (hl : us.length ≤ sizeLine)
    (h : ∀ s', Inv X pins σ H s' → Q .none s') : wpAny (model X.prog X.w) A (call (.ref u) us) Q E s := by
  obtain ⟨nm, q, N, bs, bm, sn, sub, ab, col, dd, k0, k1, k2, k3, k5, hC, hbm⟩ := T.cls
  obtain ⟨t1, ho⟩ := exo_at I.hok e
  have hCh := I.kIn _ _ hC
  obtain ⟨hp, g, d, t, os⟩ := s
  have FB := PySem.F.excBase_ValueError
  refine wpAny_call (codeAny_of_tree ?_)
  show wpAny _ A.in1 (callAny (.ref u) ⟨us, []⟩) _ _ _
  simp only [callAny]
  refine wpAny_bind (wpAny_load hu ?_)
  simp only [kxs_mw, show (Value.type "method-wrapper" == Value.type "method" || Value.type "method-wrapper" == Value.type "builtin_function_or_method" || Value.type "method-wrapper" == Value.type "method-wrapper") = true by decide, if_true]
  refine KFB.if_so (by decide) ?_
  refine wpAny_bind (check_bound_init FB.toExcCallFacts hCh ho rfl ?_)
  refine wpAny_bind (wpAny_pure (wpAny_pure ?_))
  refine ⟨plainId_quiet FB.init.plain _, codeAny_builtin FB.initEntry ?_⟩
  refine exc_init_tree (cls := .ref C) (t0 := t1) (dv := none) (c2 := .none) (c3 := .none) (b4 := .bool false) ho hl fun h' k hx _ => ?_
  have J := I.write (t' := t) (x := a) (e := a) (o := exo a C none) (by rw [e]; exact True.intro) (.inl rfl) k ⟨_, hx⟩ (exo_ok hx)
  have eu : upd H a (exo a C none) = H := by
    funext b
    by_cases hb : b = a
    · rw [hb, upd_same, e]
    · rw [upd_ne hb]
  rw [eu] at J
  exact h _ J
/-- what the written part says for such an __init__ -/
structure SupC (file : Str) (K : PySem.W.Frag) (C cc cda : Addr) (params : Arguments) : Prop where
  ox : OexC K C
  hd : hasDictIn K C = true
  cell : ∃ cl cld csl, K.lookup cc = some ⟨cl, cld, .cell (some (.ref C)), csl⟩
  code : ∃ ccl cdd vs ccs, K.lookup cda = some ⟨ccl, cdd, .fields vs, ccs⟩ ∧ ∃ tf : Tok, vs[2]? = some (.str file tf)
  mro : mroIn K C (.ref C) = some true
  ve : subIn K (.ref C) (.type "ValueError") = some true
  sup : ks_superIn K C C "__init__" = some (some (.builtin "ValueError.__init__"))
  third : nsIn K cStatics "thirdparty.any" = some none
  par : ∃ ar, (params.posonlyargs ++ params.args).head? = some ar ∧ ar.arg = "self"
theorem fn_superV {CX : CXT} {P : Program} {w : World} {K : PySem.W.Frag} {mg : Str → Option Value} {base : Heap} {k : Nat} {f C cc cda : Addr} {name qual x file : Str} {params : Arguments} {body rest : List Stmt} {scope : Scope} {dV kV doc pm ct oc : Value} {an od : Option Addr} {osl : Array (Option Value)} {sp : Sp}
    {e : Expr} {p0 p1 p2 p3 p4 : Pos}
    (lk : K.lookup f = some ⟨oc, od, .func (ksFn name qual params body scope dV kV doc pm an (.ref cda) ct cc), osl⟩) (hcd : codeIn K (.ref cda) qual = true) (S : ScS x scope) (T : SupC file K C cc cda params) (hP : ((P.main.file : Str) == file) = true ∧ (P.main.scope.names.lookup ("super" : Str)).isSome = false) (hz : mg "super" = none)
    (hbody : body = .Expr (.Call (.Attribute (.Call (.Name "super" p0) [] [] p1) "__init__" p2) [e] [] p3) p4 :: rest)
    (len : ∀ vs H Q E, sp vs H Q E → vs.length = 2)
    (hrun : ∀ (A : Around) (outer : List Env) (s : Shared) (H : Hp) (vs : List V) (Q : VK) (E : XK), Room k (A.deeper (ksEnv qual scope s.heap.objs.size f (.ref cda) cc)) → sp vs H Q E →
      ∃ (a : Addr) (v : V) (te : TE) (t : TS), vs = [.ref a, v] ∧ H a = some (exo a C none) ∧ PE (cxS CX P w K mg base ["self", x] qual scope f (.ref cda) cc A outer s H E) e te ∧ PSs (cxS CX P w K mg base ["self", x] qual scope f (.ref cda) cc A outer s H E) rest t ∧
        ∀ R : VK, (∀ z H1, H1 a = some (exo a C none) → t { nx := fun _ H' => Q .non H', rt := Q } [some (.ref a), some v] H1 → R z H1) → te [some (.ref a), some v] H R)
    (hst : ∀ env, starEach [e] env = [(false, eval e env)]) (pl : Env → Sem Bool)
    (hev : ∀ env, eval (.Call (.Attribute (.Call (.Name "super" p0) [] [] p1) "__init__" p2) [e] [] p3) env = (do
      let ov ← attributeBase (.Call (.Name "super" p0) [] [] p1) "__init__" env (eval (.Call (.Name "super" p0) [] [] p1) env)
      standAt p2.atName
      let (f, first) ← holding [ov] (getMethod ov "__init__" (pl env))
      callWith p3 f first (backTo p3 (starEach [e] env)) [])) (hsw : ∀ env : Env, swapsWith (.Call (.Attribute (.Call (.Name "super" p0) [] [] p1) "__init__" p2) [e] [] p3) none p4.line env = pure false) :
    FnOk P w K mg base CX (k + 1) f (ksFn name qual params body scope dV kV doc pm an (.ref cda) ct cc) ["self", x] sp := by
  subst hbody
  refine ⟨len, fun A outer s H args us vs Q E hr e0 hb r hsp => ?_⟩
  obtain ⟨a, v, te, t, rfl, ha, hte, hts, hq⟩ := hrun A outer s H vs Q E (hr.deeper _) hsp
  have KX : K.In s.heap := e0.mod.kin.keeps fun b o e => (e0.bs b o e).1
  have lim : s.heap.NoLimit := e0.mod.nolimit.keeps fun b o e => (e0.bs b o e).1
  obtain ⟨u1, u2, rfl, ra, rv⟩ : ∃ u1 u2, us = [u1, u2] ∧ RelV (.ref a) u1 ∧ RelV v u2 := by
    cases r with
    | cons r1 r => cases r with
      | cons r2 r => cases r; exact ⟨_, _, rfl, r1, r2⟩
  obtain rfl : u1 = Value.ref a := ra
  obtain ⟨cl, cld, csl, hcell⟩ := T.cell
  obtain ⟨ccl, cdd, vsC, ccs, hcode, tf, hvs⟩ := T.code
  obtain ⟨ar, har, hself⟩ := T.par
  obtain ⟨cd, hcls, _⟩ := any_some T.hd
  refine ks_codeAny_call_defAt (fd := ksFn name qual params _ scope dV kV doc pm an (.ref cda) ct cc) (binds := [(("self" : Str), Value.ref a), (x, u2)]) hr.depth (KX _ _ lk) rfl lim (codeRec_of KX hcd) rfl hb S.nocell ?_ (fun h1 hns hk => ?_) S.co S.gen S.kind
  · intro y hy
    rcases List.mem_cons.mp hy with rfl | hy
    · exact S.self
    · rcases List.mem_cons.mp hy with rfl | hy
      · exact S.par
      · cases hy
  have I : Inv (cxS CX P w K mg base ["self", x] qual scope f (.ref cda) cc A outer s H E) [] [some (.ref a), some v] H { s with heap := h1, toks := s.toks + ([(("self" : Str), Value.ref a), (x, u2)]).length } :=
    inv_startS S hr.hd e0 rfl rv hcell hns hk
  show _root_.PySem.wpAt (model P w) (A.deeper (ksEnv qual scope s.heap.objs.size f (.ref cda) cc)) (.func _ (ksEnv qual scope s.heap.objs.size f (.ref cda) cc)) (execs _ (ksEnv qual scope s.heap.objs.size f (.ref cda) cc)) _
    (cxS CX P w K mg base ["self", x] qual scope f (.ref cda) cc A outer s H E).xe _
  have okL : List.lookup ("self" : Str) ([(("self" : Str), Value.ref a), (x, u2)]).reverse = some (Value.ref a) := by
    have ne : (("self" : Str) == x) = false := by
      have := S.ne
      simp only [beq_eq_false_iff_ne, ne_eq]
      exact fun z => this z.symm
    simp [List.lookup, ne]
  refine ks_wpAt_execs_cons ?_
  refine ks_wpAt_Expr_any ?_ (by simp [interactive, S.kind]) (hsw _)
  refine ks_wpAt_MethodCall ?_ (hev _)
  have KX1 : K.In h1 := I.kIn
  obtain ⟨t1, hao⟩ := exo_at I.hok ha
  have hIa : InstAt h1 a { cls := .ref C, dict := none, data := .fields #[.ref t1, .none, .none, .none, .bool false, .none] } C none := ⟨hao, rfl, rfl, trivial⟩
  obtain ⟨oD, hD1, hD2⟩ : ∃ oD, h1.get? C = some oD ∧ oD.data = .cls cd := by
    unfold clsIn at hcls
    split at hcls
    · rename_i c d cd' sl ho
      cases hcls
      exact ⟨_, KX1 _ _ ho, rfl⟩
    · cases hcls
  refine ks_wpAt_super_base (f := f) (cc := cda) (fd := ksFn name qual params _ scope dV kV doc pm an (.ref cda) ct cc) S.sup S.cls (by decide) rfl (KX1 _ _ lk) rfl har rfl (KX1 _ _ hcode) rfl hvs hP.1 hP.2 ?_
  rw [hself]
  obtain ⟨mb, hb1, hb2⟩ := I.mod.blt
  refine ks_loadName_global S.kind S.sup (loadGlobal_builtin (I.mod.glob.keeps I.bk) hz (hb1.keeps I.bk) ((hb2 _ (by decide)).trans (by first | boot_by_name | rfl | kernel_rfl)) ⟨rfl, ?_⟩)
  refine wpAny_loadName_free S.kind S.cls (List.lookup_cons_self ..) ⟨_, KX1 _ _ hcell, rfl⟩ ?_
  refine wpAny_loadName_local S.kind S.self hns okL ?_
  refine ks_wpAny_isType_cls hD1 hD2 ⟨rfl, ?_⟩
  refine ks_wpAny_call_super hD1 hD2 hao rfl (fun c z => by cases z) (looks_mroIn KX1 T.mro) (fun h2 e2 k2 => ?_)
  have I1 := I.kept (t' := s.toks + [(("self" : Str), Value.ref a), (x, u2)].length) k2
  have KX2 : K.In h2 := I1.kIn
  have hIa2 : InstAt h2 a { cls := .ref C, dict := none, data := .fields #[.ref t1, .none, .none, .none, .bool false, .none] } C none := ⟨k2 _ _ hao, rfl, rfl, trivial⟩
  have hm := T.sup
  unfold ks_superIn at hm
  rw [hcls] at hm
  refine kxs_getMethod kxs_ValueError e2 (looks_opaque KX2 T.third) (l₀ := cd.mro) (fun A Q E s k q => wpAny_bind ((looks_clsIn KX2 hcls) A _ E s k (wpAny_pure q))) rfl KX2 hm (hIa2.type.andThen (looks_subIn KX2 T.ve)) (ks_ne KX2 hIa2 hcls) (by decide) ?_
  have I2 := I1.kept (t' := s.toks + [(("self" : Str), Value.ref a), (x, u2)].length + 1) (h' := h2.push (kxs_mw "ValueError.__init__" a)) (fun b o q => Heap.get?_push_of_some _ q)
  have I3 := I2.pins_of (pins' := [(h2.objs.size, kxs_mw "ValueError.__init__" a)]) (fun p hp => by
    rw [List.mem_singleton.mp hp]
    exact ⟨Heap.get?_push_at rfl rfl, I1.hok.fresh (Nat.le_refl _), Nat.ne_of_gt I1.lt, I1.nofs (Nat.le_refl _), fun v z => by cases z⟩)
  dsimp only
  rw [hst]
  refine kxs_callWith (i := "ValueError.__init__") (x := a) rfl ?_
  show wpAny _ _ (evalArgs _ true ((false, _) :: backTo _ []) []) _ _ _
  refine evalArgs_plain ?_
  have hp := (pa_cons hte pa_nil (hst _)).run p3 [(h2.objs.size, kxs_mw "ValueError.__init__" a)] _ [some (.ref a), some v] H (fun vs H1 => vs.length = 1 ∧ H1 a = some (exo a C none) ∧ t { nx := fun _ H' => Q .non H', rt := Q } [some (.ref a), some v] H1) I3 (hq _ fun z H1 p q => ⟨rfl, p, q⟩)
  rw [hst] at hp
  refine thn hp fun us s3 hu => ?_
  obtain ⟨vs, H1, I4, r4, hl4, ha4, ht⟩ := hu
  have hpin := (I4.pin (h2.objs.size, kxs_mw "ValueError.__init__" a) (List.mem_append_right _ (List.mem_singleton.mpr rfl))).1
  refine ⟨hpin, ?_⟩
  refine mwcall_ok T.ox I4 ha4 hpin (by rw [List.nil_append, ← Paired.length r4, hl4]; decide) fun s4 I5 => ?_
  refine wpAt_of_wpAny ?_
  have I6 := I5.pins_of (pins' := []) fun p hp => nomatch hp
  refine wpAny_mono (hts.run [] s4 _ H1 _ I6 ht) (fun fl s' hs => ?_) fun e s' hs => hs
  have fin : ∀ {σ' : St} {H' : Hp} {v : V} {u : Value}, Inv (cxS CX P w K mg base ["self", x] qual scope f (.ref cda) cc A outer s H E) [] σ' H' s' → RelV v u → Q v H' → CE outer P w H s Q u s' :=
    fun {σ' H' v u} J rv q => ⟨v, H', J.os, J.bare, J.base, J.hok, rv, q⟩
  cases fl with
  | ret u =>
    obtain ⟨v, σ', H', J, rv, q⟩ := hs
    exact fin J rv q
  | next =>
    obtain ⟨σ', H', J, q⟩ := hs
    exact fin (v := V.non) (u := Value.none) J rfl q
  | brk =>
    obtain ⟨_, _, _, q⟩ := hs
    exact False.elim q
  | cont =>
    obtain ⟨_, _, _, q⟩ := hs
    exact False.elim q
end

/-! ### C(k = v, ..) whose __init__ may raise, at the slots of the call -/
def tMakeKS (C : Addr) (m : Nat) (sp : Sp) (gV : List V → List V → List V) (E : St → XK) (tk : TA) : TE := fun σ H Q => tk σ H fun zs H2 => zs.length = m ∧ ∀ x dx, H2 x = none → H2 dx = none → dx ≠ x →
  sp (gV [.ref x] zs) (upd (upd H2 dx (.own x)) x (.ins C dx [])) (fun v H3 => v = .non ∧ Q (.ref x) H3) (E σ)
section
variable {X : Cx} {CX : CXT} {k n : Nat} {f C : Addr} {fd : FuncData} {ps ks : List Str} {sp : Sp} {E : St → XK} {x : Str} {p pos : Pos} {kws : List Keyword} {t tk : TA} {g : List Value → List Value → List Value} {gV : List V → List V → List V}
theorem pe_makeKS (M : Mk X.K C f) (F : FnOk X.prog X.w X.K X.mg X.base CX k f fd ps sp) (hr : Room (k + 1) X.A) (hg : Gl X x) (hm : X.mg x = some (.ref C)) (hb : KBn X.K fd ps 1 ks g gV) (hx : ∀ σ, PassesAt CX X σ (E σ)) (hkw : PK X kws tk)
    (hall : (backToKw pos (keywordEach kws X.env)).all (·.1.isSome) = true := by rfl) (hks : (backToKw pos (keywordEach kws X.env)).filterMap (·.1) = ks := by rfl) (hdb : (x == ("__debug__" : Str)) = false := by decide)
    (hpl : ((backTo pos (starEach [] X.env)).any (·.1) || (backToKw pos (keywordEach kws X.env)).any (·.1.isNone)) = false := by rfl) :
    PE X (.Call (.Name x p) [] kws pos) (tMakeKS C ks.length sp gV E tk) := by
  refine ⟨fun pins s σ H Q I h => ?_⟩
  refine wpAny_Call_Name_kw (ld_glob I hg hm ?_ hdb)
  refine PySem.W.callWith_KW0 (h₀ := X.base) I.ok.mod.kin M.kp hall ?_ hpl
  refine thn (hkw.run pos pins s σ H _ I h) fun ws s2 ⟨zs, H2, I2, rz, l2, q2⟩ => ⟨I2.kIn, ?_⟩
  rw [hks]
  have hq := q2 (s2.heap.objs.size + 1) s2.heap.objs.size (I2.hok.fresh (Nat.le_succ _)) (I2.hok.fresh (Nat.le_refl _)) (Nat.ne_of_lt (Nat.lt_succ_self _))
  have I3 := Inv.made (C := C) I2
  have r1 : Vals [V.ref (s2.heap.objs.size + 1)] [Value.ref (s2.heap.objs.size + 1)] := .cons rfl .nil
  have r2 := hb.rel r1 rz
  refine wpAny_call (make_map (f := f) I2.kIn M.makes M.init (beq_iff_eq.mp M.fn) (codeAny_mono (F.run _ X.stack _ _ ⟨[Value.ref (s2.heap.objs.size + 1)], ks.zip ws⟩ (g [Value.ref (s2.heap.objs.size + 1)] ws) _ _ (E σ) (hr.make C [] (ks.zip ws))
    (I3.env0.make C [] (ks.zip ws)) (hb.to _ [Value.ref (s2.heap.objs.size + 1)] ws I3.kIn rfl (rz.length.symm.trans l2)) r2 hq) fun r s' hq' => ?_))
  cases r with
  | error e => exact hx σ pins _ _ e s' I3 hq'
  | ok fl =>
    cases fl with
    | ret u =>
      obtain ⟨v, H', I4, rv, ev, q3⟩ := I3.after hq'
      subst ev
      exact ⟨rv, ⟨V.ref (s2.heap.objs.size + 1), H', I4, rfl, q3⟩⟩
    | next => exact False.elim hq'
    | brk => exact False.elim hq'
    | cont => exact False.elim hq'
end
/-! ### isinstance of a caught error that has a dict -/
/-- isinstance(e, c), e the exception that the suite holds, with its dict -/
def rIsEO (K : PySem.W.Frag) (D a : Addr) (cls : Value) (d : Option Addr) : List V → Hp → VK → Prop := fun xs H Q => ∃ (c : V) (cv : Value) (b : Bool) (dd : Addr) (fs : List (Str × V)), xs = [.ref a, c] ∧ cls = .ref D ∧ d = some dd ∧ H dd = some (.xd fs) ∧ (∀ u, RelV c u → u = cv) ∧ PySem.W.kitOne K (.ref D) cv = some b ∧ Q (.bl b) H
theorem call_isEO {X : Cx} {a D : Addr} {cls : Value} {d : Option Addr} {oe : Obj} {pn : List (Addr × Obj)} (C : ExcC X.K D) (hz : Zc cls d oe) (hf : ∃ vs, oe.data = .fields vs) : CallR (X.suite a ((a, oe) :: pn)) (.builtin "isinstance") (rIsEO X.K D a cls d) := by
  intro pins s σ H xs us Q I r h
  obtain ⟨c, cv, b, dd, fs, rfl, ec, ed, ea, hcv, e, q⟩ := h
  subst ec
  subst ed
  cases r with
  | cons rx rr =>
    cases rr with
    | cons rt rr =>
      cases rr
      cases rx
      have ec := hcv _ rt
      subst ec
      obtain ⟨hget, _⟩ := I.pin (a, oe) (List.mem_append.mpr (.inl List.mem_cons_self))
      obtain ⟨vs, hv⟩ := hf
      have hx : ObjOk X.prog X.w H s.heap dd (.xd fs) := I.hok dd _ ea
      obtain ⟨mA, hns, hr⟩ := hx
      obtain ⟨od, ho, hl⟩ := lookIn_ns hns
      have J : PySem.W.InstAt s.heap a oe D (some od) := ⟨hget, hz.1, by unfold PySem.W.notCls; rw [hv] <;> rfl, by rw [hz.2]; exact ho⟩
      exact PySem.W.kia_one (PySem.W.kitx_exc (by obtain ⟨cd, hc, _⟩ := PySem.W.any_some C.hd; rw [hc]; rfl) C.hg C.hk C.hs C.ha C.hn C.ht C.hm) I.kIn J e (fun z => nomatch z) fun tk => ⟨.bl b, H, I.kept (t' := tk) fun _ _ z => z, rfl, q⟩

/-- an own error over ValueError whose __init__ says super().__init__(e): its facts -/
structure SupFn (K : PySem.W.Frag) (C B f : Addr) (fd : FuncData) (st : Stmt) (qual fld file : Str) : Prop where
  ex : ∃ (oc : Value) (od an : Option Addr) (osl : Array (Option Value)) (cda cc : Addr) (kV doc pm ct : Value), fd = PySem.W.ksFn "__init__" qual (defArgs st) (defBody st) (defScope st) .none kV doc pm an (.ref cda) ct cc ∧
    K.lookup f = some ⟨oc, od, .func fd, osl⟩ ∧ PySem.W.codeIn K (.ref cda) qual = true ∧ SupC file K C cc cda (defArgs st)
  ox : OexC K C
  ini : PySem.W.findIn K (.ref C) "__init__" = some (some (.ref f))
  ty : PySem.W.typeIn K (.ref f) = some (.type "function")
  exc : ExcC K C
  xf : XfC K C
  na : PySem.W.findIn K (.ref C) fld = some none
  exm : PySem.W.exmOne K (.ref C) (.ref C) = some true
  kitB : PySem.W.kitOne K (.ref C) (.ref B) = some true
  kitV : PySem.W.kitOne K (.ref C) (.type "ValueError") = some true
theorem kit_ref {K : PySem.W.Frag} {t : Value} {B : Addr} (hd : PySem.W.hasDictIn K B = true) (ht : PySem.W.typeIn K (.ref B) = some (.type "type")) (hs : PySem.W.subIn K t (.ref B) = some true) : PySem.W.kitOne K t (.ref B) = some true := by
  obtain ⟨cd, hc, _⟩ := PySem.W.any_some hd
  unfold PySem.W.kitOne
  split
  · rfl
  · show (if ((PySem.W.clsIn K B).isSome && PySem.W.typeIn K (.ref B) == some (.type "type")) = true then PySem.W.subIn K t (.ref B) else none) = some true
    rw [hc, ht]
    exact hs
theorem kit_VE {K : PySem.W.Frag} {t : Value} (hs : PySem.W.subIn K t (.type "ValueError") = some true) : PySem.W.kitOne K t (.type "ValueError") = some true := by
  unfold PySem.W.kitOne
  split
  · rfl
  · show (if PySem.W.kitMeta "ValueError" = true then PySem.W.subIn K t (.type "ValueError") else none) = some true
    rw [if_pos (by decide +kernel)]
    exact hs
theorem kit_TF {K : PySem.W.Frag} {C : Addr} (hs : PySem.W.subIn K (.ref C) (.type "tuple") = some false) : PySem.W.kitOne K (.ref C) (.type "tuple") = some false := by
  unfold PySem.W.kitOne
  rw [if_neg (by intro z; have := beq_iff_eq.mp z; cases this)]
  show (if PySem.W.kitMeta "tuple" = true then PySem.W.subIn K (.ref C) (.type "tuple") else none) = some false
  rw [if_pos (by decide +kernel)]
  exact hs

def top (i : Nat) : Stmt := PySem.Challenge.pw_caisson_k01_shapes.main.body.getD i (.Pass ⟨0, 0, 0, 0⟩)
abbrev s_leaves_below : Stmt := top 8
abbrev s_is_depth : Stmt := top 9
abbrev s_out_of_range : Stmt := top 10
abbrev s_Shape___init__ : Stmt := inClass (top 11) 0
abbrev s_Shape_leaves : Stmt := inClass (top 11) 1
abbrev s_Shape_cells : Stmt := inClass (top 11) 3
abbrev s_Shape_ample : Stmt := inClass (top 11) 4
abbrev s__law_state : Stmt := top 13
abbrev s__law_draw : Stmt := top 14
abbrev s__law_near : Stmt := top 15
abbrev s__law_made : Stmt := top 16
abbrev s__law_levels : Stmt := top 17
abbrev s_law : Stmt := top 18
abbrev s_ShapeError___init__ : Stmt := inClass (top 3) 0
abbrev n_leaves_below : List Str := ["fanout", "levels", "number", "_"]
abbrev p_leaves_below : List Str := ["fanout", "levels"]
theorem sc_leaves_below : FnScope n_leaves_below p_leaves_below (defScope s_leaves_below) := ⟨rfl, rfl, rfl, by decide +kernel, rfl, by decide +kernel, by decide +kernel⟩
abbrev n_is_depth : List Str := ["fanout", "depth"]
abbrev p_is_depth : List Str := ["fanout", "depth"]
theorem sc_is_depth : FnScope n_is_depth p_is_depth (defScope s_is_depth) := ⟨rfl, rfl, rfl, by decide +kernel, rfl, by decide +kernel, by decide +kernel⟩
abbrev n_out_of_range : List Str := ["shape"]
abbrev p_out_of_range : List Str := ["shape"]
theorem sc_out_of_range : FnScope n_out_of_range p_out_of_range (defScope s_out_of_range) := ⟨rfl, rfl, rfl, by decide +kernel, rfl, by decide +kernel, by decide +kernel⟩
abbrev n_Shape___init__ : List Str := ["self", "fanout", "depth", "words", "blocks", "snapshots", "wrong"]
abbrev p_Shape___init__ : List Str := ["self", "fanout", "depth", "words", "blocks", "snapshots"]
theorem sc_Shape___init__ : FnScope n_Shape___init__ p_Shape___init__ (defScope s_Shape___init__) := ⟨rfl, rfl, rfl, by decide +kernel, rfl, by decide +kernel, by decide +kernel⟩
abbrev n_Shape_leaves : List Str := ["self"]
abbrev p_Shape_leaves : List Str := ["self"]
theorem sc_Shape_leaves : FnScope n_Shape_leaves p_Shape_leaves (defScope s_Shape_leaves) := ⟨rfl, rfl, rfl, by decide +kernel, rfl, by decide +kernel, by decide +kernel⟩
abbrev n_Shape_cells : List Str := ["self", "level"]
abbrev p_Shape_cells : List Str := ["self"]
theorem sc_Shape_cells : FnScope n_Shape_cells p_Shape_cells (defScope s_Shape_cells) := ⟨rfl, rfl, rfl, by decide +kernel, rfl, by decide +kernel, by decide +kernel⟩
abbrev n_Shape_ample : List Str := ["self"]
abbrev p_Shape_ample : List Str := ["self"]
theorem sc_Shape_ample : FnScope n_Shape_ample p_Shape_ample (defScope s_Shape_ample) := ⟨rfl, rfl, rfl, by decide +kernel, rfl, by decide +kernel, by decide +kernel⟩
abbrev n__law_state : List Str := ["script", "seed", "cell"]
abbrev p__law_state : List Str := ["script"]
theorem sc__law_state : FnScope n__law_state p__law_state (defScope s__law_state) := ⟨rfl, rfl, rfl, by decide +kernel, rfl, by decide +kernel, by decide +kernel⟩
abbrev n__law_draw : List Str := ["state", "many", "cells", "value", "mixed"]
abbrev p__law_draw : List Str := ["state", "many"]
theorem sc__law_draw : FnScope n__law_draw p__law_draw (defScope s__law_draw) := ⟨rfl, rfl, rfl, by decide +kernel, rfl, by decide +kernel, by decide +kernel⟩
abbrev n__law_near : List Str := ["state", "least", "greatest", "kind"]
abbrev p__law_near : List Str := ["state", "least", "greatest"]
theorem sc__law_near : FnScope n__law_near p__law_near (defScope s__law_near) := ⟨rfl, rfl, rfl, by decide +kernel, rfl, by decide +kernel, by decide +kernel⟩
abbrev n__law_made : List Str := ["v", "e"]
abbrev p__law_made : List Str := ["v"]
theorem sc__law_made : FnScope n__law_made p__law_made (defScope s__law_made) := ⟨rfl, rfl, rfl, by decide +kernel, rfl, by decide +kernel, by decide +kernel⟩
abbrev n__law_levels : List Str := ["fanout", "depth", "rows", "level"]
abbrev p__law_levels : List Str := ["fanout", "depth"]
theorem sc__law_levels : FnScope n__law_levels p__law_levels (defScope s__law_levels) := ⟨rfl, rfl, rfl, by decide +kernel, rfl, by decide +kernel, by decide +kernel⟩
abbrev n_law : List Str := ["script", "state", "v", "bad", "made", "rows"]
abbrev p_law : List Str := ["script"]
theorem sc_law : FnScope n_law p_law (defScope s_law) := ⟨rfl, rfl, rfl, by decide +kernel, rfl, by decide +kernel, by decide +kernel⟩
structure Txt (K : PySem.W.Frag) (mg : Str → Option Value) where
  f_leaves_below : Addr
  d_leaves_below : FuncData
  F_leaves_below : Fun K "leaves_below" "leaves_below" s_leaves_below f_leaves_below d_leaves_below
  b_leaves_below : Binds K d_leaves_below p_leaves_below []
  mg_leaves_below : mg "leaves_below" = some (.ref f_leaves_below)
  f_is_depth : Addr
  d_is_depth : FuncData
  F_is_depth : Fun K "is_depth" "is_depth" s_is_depth f_is_depth d_is_depth
  b_is_depth : Binds K d_is_depth p_is_depth []
  mg_is_depth : mg "is_depth" = some (.ref f_is_depth)
  f_out_of_range : Addr
  d_out_of_range : FuncData
  F_out_of_range : Fun K "out_of_range" "out_of_range" s_out_of_range f_out_of_range d_out_of_range
  b_out_of_range : Binds K d_out_of_range p_out_of_range []
  mg_out_of_range : mg "out_of_range" = some (.ref f_out_of_range)
  f_Shape___init__ : Addr
  d_Shape___init__ : FuncData
  F_Shape___init__ : FunD K "__init__" "Shape.__init__" (defArgs s_Shape___init__) (defBody s_Shape___init__) (defScope s_Shape___init__) [] [("snapshots", V.int 0)] f_Shape___init__ d_Shape___init__
  f_Shape_leaves : Addr
  d_Shape_leaves : FuncData
  F_Shape_leaves : Fun K "leaves" "Shape.leaves" s_Shape_leaves f_Shape_leaves d_Shape_leaves
  b_Shape_leaves : Binds K d_Shape_leaves p_Shape_leaves []
  f_Shape_cells : Addr
  d_Shape_cells : FuncData
  F_Shape_cells : Fun K "cells" "Shape.cells" s_Shape_cells f_Shape_cells d_Shape_cells
  b_Shape_cells : Binds K d_Shape_cells p_Shape_cells []
  f_Shape_ample : Addr
  d_Shape_ample : FuncData
  F_Shape_ample : Fun K "ample" "Shape.ample" s_Shape_ample f_Shape_ample d_Shape_ample
  b_Shape_ample : Binds K d_Shape_ample p_Shape_ample []
  f__law_state : Addr
  d__law_state : FuncData
  F__law_state : Fun K "_law_state" "_law_state" s__law_state f__law_state d__law_state
  b__law_state : Binds K d__law_state p__law_state []
  mg__law_state : mg "_law_state" = some (.ref f__law_state)
  f__law_draw : Addr
  d__law_draw : FuncData
  F__law_draw : Fun K "_law_draw" "_law_draw" s__law_draw f__law_draw d__law_draw
  b__law_draw : Binds K d__law_draw p__law_draw []
  mg__law_draw : mg "_law_draw" = some (.ref f__law_draw)
  f__law_near : Addr
  d__law_near : FuncData
  F__law_near : Fun K "_law_near" "_law_near" s__law_near f__law_near d__law_near
  b__law_near : Binds K d__law_near p__law_near []
  mg__law_near : mg "_law_near" = some (.ref f__law_near)
  f__law_made : Addr
  d__law_made : FuncData
  F__law_made : Fun K "_law_made" "_law_made" s__law_made f__law_made d__law_made
  b__law_made : Binds K d__law_made p__law_made []
  mg__law_made : mg "_law_made" = some (.ref f__law_made)
  f__law_levels : Addr
  d__law_levels : FuncData
  F__law_levels : Fun K "_law_levels" "_law_levels" s__law_levels f__law_levels d__law_levels
  b__law_levels : Binds K d__law_levels p__law_levels []
  mg__law_levels : mg "_law_levels" = some (.ref f__law_levels)
  f_law : Addr
  d_law : FuncData
  F_law : Fun K "law" "law" s_law f_law d_law
  b_law : Binds K d_law p_law []
  mg_law : mg "law" = some (.ref f_law)
  C_Shape : Addr
  mg_Shape : mg "Shape" = some (.ref C_Shape)
  cl_Shape : Cls K C_Shape
  kb_Shape : KBn K d_Shape___init__ p_Shape___init__ 1 ["fanout", "depth", "words", "blocks", "snapshots"] (fun us ws => us ++ ws) (fun vs zs => vs ++ zs)
  M_Shape : Mk K C_Shape f_Shape___init__
  na_Shape_fanout : NoAttr K C_Shape "fanout"
  na_Shape_depth : NoAttr K C_Shape "depth"
  na_Shape_words : NoAttr K C_Shape "words"
  na_Shape_blocks : NoAttr K C_Shape "blocks"
  na_Shape_snapshots : NoAttr K C_Shape "snapshots"
  m_Shape_leaves : Meth K C_Shape "leaves" f_Shape_leaves
  m_Shape_cells : Meth K C_Shape "cells" f_Shape_cells
  m_Shape_ample : Meth K C_Shape "ample" f_Shape_ample
  t_MOST_DEPTH : Tok
  mg_MOST_DEPTH : mg "MOST_DEPTH" = some (.int 6 t_MOST_DEPTH)
  t_MOST_LEAVES : Tok
  mg_MOST_LEAVES : mg "MOST_LEAVES" = some (.int 64 t_MOST_LEAVES)
  t_MOST_BLOCKS : Tok
  mg_MOST_BLOCKS : mg "MOST_BLOCKS" = some (.int 1000 t_MOST_BLOCKS)
  z_range : mg "range" = none
  z_len : mg "len" = none
  z_abs : mg "abs" = none
  z_int : mg "int" = none
  z_sum : mg "sum" = none
  z_isinstance : mg "isinstance" = none
  z_super : mg "super" = none
  z_ValueError : mg "ValueError" = none
  z_tuple : mg "tuple" = none
  gc_Shape : PySem.W.findIn K (.ref C_Shape) "__class__" = some (some (.builtin "object.__class__"))
  mo_Shape : PySem.W.mroIn K C_Shape (.type "object") = some true
  kt_Shape : PySem.W.kitOne K (.ref C_Shape) (.type "tuple") = some false
  kb_Shape4 : ∃ mv : List Value, KBn K d_Shape___init__ p_Shape___init__ 1 ["fanout", "depth", "words", "blocks"] (fun us ws => us ++ ws ++ mv) (fun vs zs => vs ++ zs ++ [V.int 0])
  f_ShapeError : Addr
  d_ShapeError : FuncData
  C_ShapeError : Addr
  C_CaissonError : Addr
  file_ShapeError : Str
  mg_ShapeError : mg "ShapeError" = some (.ref C_ShapeError)
  mg_CaissonError : mg "CaissonError" = some (.ref C_CaissonError)
  S_ShapeError : SupFn K C_ShapeError C_CaissonError f_ShapeError d_ShapeError s_ShapeError___init__ "ShapeError.__init__" "name" file_ShapeError
/-! ### the law's own stream of numbers -/
/-- at a: the list of the numbers left (at c) and the seed -/
def StA (a c : Addr) (H : Hp) : Prop := ∃ (ns : List Int) (z : Int), a ≠ c ∧ H a = some (.lst [.ref c, .int z]) ∧ H c = some (.lst (ns.map V.int)) ∧ ns.length ≤ 63 ∧ (∀ n ∈ ns, 0 ≤ n) ∧ 0 ≤ z ∧ z < 2147483647
/-- nothing else that stood has changed -/
def Kp (a c : Addr) (H H' : Hp) : Prop := ∀ b o, b ≠ a → b ≠ c → H b = some o → H' b = some o
theorem Kp.refl {a c : Addr} (H : Hp) : Kp a c H H := fun _ _ _ _ h => h
theorem Kp.trans {a c : Addr} {H H1 H2 : Hp} (x : Kp a c H H1) (y : Kp a c H1 H2) : Kp a c H H2 := fun b o h1 h2 e => y b o h1 h2 (x b o h1 h2 e)
theorem Kp.upd1 {a c : Addr} {H H1 : Hp} {o : HO} (x : Kp a c H H1) : Kp a c H (upd H1 a o) := fun b o h1 h2 e => (upd_ne h1).trans (x b o h1 h2 e)
theorem Kp.upd2 {a c : Addr} {H H1 : Hp} {o : HO} (x : Kp a c H H1) : Kp a c H (upd H1 c o) := fun b o h1 h2 e => (upd_ne h2).trans (x b o h1 h2 e)
theorem Kp.same {a c : Addr} {H H1 : Hp} (x : Same H H1) : Kp a c H H1 := fun b o _ _ e => x b o e
theorem Same.new {H : Hp} {p : Addr} {o : HO} (h : H p = none) : Same H (upd H p o) := fun b o e => by rw [upd_ne (ne_of_none e h)]; exact e
def spState (K : PySem.W.Frag) : Sp := fun vs H Q _ => ∃ (l : Addr) (ns : List Int), vs = [.ref l] ∧ SqL K H l (ns.map V.int) ∧ ns.length ≤ 63 ∧
  ∀ (a c : Addr) (H' : Hp), H a = none → H c = none → StA a c H' → Same H H' → Q (.ref a) H'
def spDraw : Sp := fun vs H Q _ => ∃ (a c : Addr) (m : Int), vs = [.ref a, .int m] ∧ StA a c H ∧ 1 ≤ m ∧ m < 1000000 ∧
  ∀ (r : Int) (H' : Hp), 0 ≤ r → r < m → StA a c H' → Kp a c H H' → Q (.int r) H'
theorem int_at {ns : List Int} {i : Nat} {y : V} (hi : (ns.map V.int)[i]? = some y) : ∃ u, ns[i]? = some u ∧ y = V.int u := by
  rw [List.getElem?_map] at hi
  cases e : ns[i]? with
  | none => rw [e] at hi; cases hi
  | some u => rw [e] at hi; exact ⟨u, rfl, (Option.some.inj hi).symm⟩
theorem upd_eq {H : Hp} {a : Addr} {o : HO} (h : H a = some o) : upd H a o = H := by
  funext b
  by_cases e : b = a
  · rw [e, upd_same, h]
  · rw [upd_ne e]
theorem iteDT {c A B : Prop} [Decidable c] (hc : c) (h : A) : if decide c = true then A else B := by
  rw [if_pos (decide_eq_true hc)]
  exact h
theorem iteDF {c A B : Prop} [Decidable c] (hc : ¬ c) (h : B) : if decide c = true then A else B := by
  rw [if_neg (by rw [decide_eq_false hc]; decide)]
  exact h
theorem ixN_nat {n j : Nat} (h : j < n) : ixN n (j : Int) = some j := by
  unfold ixN
  rw [if_pos (by omega), if_pos (by omega)]
  simp
theorem seqIx_nat {n j : Nat} (h : j < n) : seqIndex? (j : Int) n = some j := (ixN_seq (ixN_nat h)).1
theorem StA.keep {a c : Addr} {H H' : Hp} (h : StA a c H) (k : Same H H') : StA a c H' := by
  obtain ⟨ns, z, h1, h2, h3, h4⟩ := h
  exact ⟨ns, z, h1, k _ _ h2, k _ _ h3, h4⟩
theorem StA.ne {a c : Addr} {H : Hp} (h : StA a c H) : a ≠ c := by obtain ⟨_, _, h, _⟩ := h; exact h
theorem StA.some1 {a c : Addr} {H : Hp} (h : StA a c H) : ∃ o, H a = some o := by obtain ⟨_, _, _, h, _⟩ := h; exact ⟨_, h⟩
theorem StA.some2 {a c : Addr} {H : Hp} (h : StA a c H) : ∃ o, H c = some o := by obtain ⟨_, _, _, _, h, _⟩ := h; exact ⟨_, h⟩

/-! ### shapes -/
def shF (f d w b s : Int) : List (Str × V) := [("fanout", .int f), ("depth", .int d), ("words", .int w), ("blocks", .int b), ("snapshots", .int s)]
def ShAt (C : Addr) (H : Hp) (p : Addr) (f d w b s : Int) : Prop := ∃ dx, H p = some (.ins C dx (shF f d w b s))
/-- in range -/
def ShOk (f d w b s : Int) : Prop := 2 ≤ f ∧ f ≤ 4 ∧ 1 ≤ d ∧ d ≤ 6 ∧ f ^ d.toNat ≤ 64 ∧ 1 ≤ w ∧ w ≤ 4 ∧ d + 1 ≤ b ∧ b ≤ 1000 ∧ 0 ≤ s ∧ s ≤ 3
def oor (f d w b s : Int) : Option Str := if ¬ (2 ≤ f ∧ f ≤ 4) then some ("fanout" : Str) else if ¬ (1 ≤ d ∧ d ≤ 6 ∧ f ^ d.toNat ≤ 64) then some ("depth" : Str) else
  if ¬ (1 ≤ w ∧ w ≤ 4) then some ("words" : Str) else if ¬ (d + 1 ≤ b ∧ b ≤ 1000) then some ("blocks" : Str) else if ¬ (0 ≤ s ∧ s ≤ 3) then some ("snapshots" : Str) else none
def spLB : Sp := fun vs H Q _ => ∃ f d : Int, vs = [.int f, .int d] ∧ 2 ≤ f ∧ f ≤ 4 ∧ 0 ≤ d ∧ d ≤ 6 ∧ Q (.int (f ^ d.toNat)) H
def spDp : Sp := fun vs H Q _ => ∃ f d : Int, vs = [.int f, .int d] ∧ 2 ≤ f ∧ f ≤ 4 ∧ ∀ r : Bool, (r = true ↔ (1 ≤ d ∧ d ≤ 6 ∧ f ^ d.toNat ≤ 64)) → Q (.bl r) H
def optS : Option Str → V | some x => .str x | none => .non
def spOor (C : Addr) : Sp := fun vs H Q _ => ∃ (p : Addr) (f d w b s : Int), vs = [.ref p] ∧ ShAt C H p f d w b s ∧ Q (optS (oor f d w b s)) H
def spShape (C : Addr) : Sp := fun vs H Q _ => ∃ (p dx : Addr) (f d w b s : Int), vs = [.ref p, .int f, .int d, .int w, .int b, .int s] ∧ H p = some (.ins C dx []) ∧ ShOk f d w b s ∧ Q .non (upd H p (.ins C dx (shF f d w b s)))
def spLeaves (C : Addr) : Sp := fun vs H Q _ => ∃ (p : Addr) (f d w b s : Int), vs = [.ref p] ∧ ShAt C H p f d w b s ∧ ShOk f d w b s ∧ Q (.int (f ^ d.toNat)) H
example (f d w b s : Int) : (shF f d w b s).lookup ("depth" : Str) = some (.int d) := rfl
example (f d w b s : Int) : (shF f d w b s).lookup ("way" : Str) = none := rfl
example (f d w b s : Int) : putF "snapshots" (.int s) (putF "blocks" (.int b) (putF "words" (.int w) (putF "depth" (.int d) (putF "fanout" (.int f) [])))) = shF f d w b s := rfl
/-- the digits of i to the base f, the highest of n first -/
def wayV (f : Int) (n : Nat) (i : Int) : List Int := ((List.range n).map fun j => i / f ^ j % f).reverse
theorem wayV_len (f : Int) (n : Nat) (i : Int) : (wayV f n i).length = n := by simp [wayV]
def spWay (C : Addr) : Sp := fun vs H Q _ => ∃ (p : Addr) (f d w b s i : Int), vs = [.ref p, .int i] ∧ ShAt C H p f d w b s ∧ ShOk f d w b s ∧ 0 ≤ i ∧
  ∀ (t : Addr) (H' : Hp), H t = none → Same H H' → H' t = some (.tup ((wayV f d.toNat i).map V.int)) → Q (.ref t) H'
/-- the cells of the first n levels -/
def cN (f : Int) : Nat → Int
  | 0 => 0
  | n + 1 => cN f n + f ^ n
theorem cN_bd {f : Int} {n : Nat} (h1 : 2 ≤ f) (h2 : f ≤ 4) (h3 : 1 ≤ n) (h4 : n ≤ 6) (h5 : f ^ n ≤ 64) : (n : Int) + 1 ≤ cN f (n + 1) ∧ cN f (n + 1) ≤ 127 := by
  have hf : f = 2 ∨ f = 3 ∨ f = 4 := by omega
  have hn : n = 1 ∨ n = 2 ∨ n = 3 ∨ n = 4 ∨ n = 5 ∨ n = 6 := by omega
  rcases hf with rfl | rfl | rfl <;> rcases hn with rfl | rfl | rfl | rfl | rfl | rfl <;> first | (exact absurd h5 (by decide)) | decide
def spLShape (C : Addr) : Sp := fun vs H Q _ => ∃ (a c : Addr) (j : Int), vs = [.ref a, .int j] ∧ StA a c H ∧ 0 ≤ j ∧ j ≤ 2 ∧
  ∀ (p : Addr) (f d w b s : Int) (H' : Hp), H p = none → ShAt C H' p f d w b s → ShOk f d w b s → (j = 0 → b = (s + 2) * cN f (d.toNat + 1)) → StA a c H' → Kp a c H H' → Q (.ref p) H'
def spLLeaves (C : Addr) : Sp := spLeaves C

theorem kbd_Shape {K : PySem.W.Frag} {f : Addr} {fd : FuncData} (F : FunD K "__init__" "Shape.__init__" (defArgs s_Shape___init__) (defBody s_Shape___init__) (defScope s_Shape___init__) [] [("snapshots", V.int 0)] f fd) :
    KBn K fd p_Shape___init__ 1 ["fanout", "depth", "words", "blocks", "snapshots"] (fun us ws => us ++ ws) (fun vs zs => vs ++ zs) := by
  obtain ⟨mv, h⟩ := F.kbinds0 (ps := p_Shape___init__) 1 ["fanout", "depth", "words", "blocks", "snapshots"] [] (fun us _ ws => us ++ ws) (by simp) (by simp) (fun r1 _ r3 => r1.append r3) (fun D doc pm an cdv ct us mv ws h1 _ h3 =>
    match us, ws, h1, h3 with
    | [_], [_, _, _, _, _], _, _ => rfl)
  exact h

theorem kbd_Shape4 {K : PySem.W.Frag} {f : Addr} {fd : FuncData} (F : FunD K "__init__" "Shape.__init__" (defArgs s_Shape___init__) (defBody s_Shape___init__) (defScope s_Shape___init__) [] [("snapshots", V.int 0)] f fd) :
    ∃ mv : List Value, KBn K fd p_Shape___init__ 1 ["fanout", "depth", "words", "blocks"] (fun us ws => us ++ ws ++ mv) (fun vs zs => vs ++ zs ++ [V.int 0]) := by
  exact F.kbinds0 (ps := p_Shape___init__) 1 ["fanout", "depth", "words", "blocks"] [("snapshots", V.int 0)] (fun us mv ws => us ++ ws ++ mv) (by simp) (by simp) (fun r1 r2 r3 => (r1.append r3).append r2) (fun D doc pm an cdv ct us mv ws h1 h2 h3 =>
    match us, ws, mv, h1, h3, h2 with
    | [_], [_, _, _, _], [_], _, _, _ => ⟨_, _, _, _, _, _, rfl, rfl, rfl⟩)
theorem passF {X : Cx} (σ : St) : PassesAt (L2.CX X.prog X.w) X σ (fun _ _ _ => False) := fun pins H s e s' I c => by
  obtain ⟨_, _, _, _, _, _, _, _, _, _, _, _, z⟩ := c
  exact z.elim
theorem scS_ShapeError : ScS "name" (defScope s_ShapeError___init__) := ⟨rfl, rfl, rfl, by decide, by decide +kernel, by decide +kernel, by decide +kernel, by decide +kernel, by decide +kernel, by decide +kernel⟩
def FileOk (P : Program) (file : Str) : Prop := ((P.main.file : Str) == file) = true ∧ (P.main.scope.names.lookup ("super" : Str)).isSome = false
def spSE (C : Addr) : Sp := fun vs H Q _ => ∃ (a : Addr) (z : Str), vs = [.ref a, .str z] ∧ z.length ≤ 100 ∧ H a = some (exo a C none) ∧ ∀ dx, H dx = none → dx ≠ a → Q .non (upd (upd H dx (exd dx [("name", .str z)])) a (exo a C (some dx)))
section
variable {P : Program} {w : World} {K : PySem.W.Frag} {mg : Str → Option Value} {base : Heap}
theorem ok_SE (T : Txt K mg) (hP : FileOk P T.file_ShapeError) : FnOk P w K mg base CX0 1 T.f_ShapeError T.d_ShapeError ["self", "name"] (spSE T.C_ShapeError) := by
  obtain ⟨oc, od, an, osl, cda, cc, kV, doc, pm, ct, e, lk, hcd, S⟩ := T.S_ShapeError.ex
  rw [e] at lk ⊢
  refine fn_superV (C := T.C_ShapeError) (x := "name") lk hcd scS_ShapeError S hP T.z_super rfl (fun vs H Q E h => ?_) (fun A outer s H vs Q E hr h => ?_) (fun _ => rfl) _ (fun _ => rfl) (fun _ => rfl)
  · obtain ⟨a, z, rfl, _⟩ := h
    rfl
  · obtain ⟨a, z, rfl, hz, ha, k⟩ := h
    refine ⟨a, .str z, _, _, rfl, ha, pe_joined (PJ.cons (pe_fmt (pv 1)) (PJ.cons pe_str PJ.nil)), pss_one (ps_ost (pv 0) (pv 1)), fun R hR => ?_⟩
    have hz2 : z.length ≤ sizeLine := Nat.le_trans hz (by decide)
    have e0 : (Str.empty ++ z).length = z.length := by rw [Str.length_append]; exact Nat.zero_add _
    refine ⟨_, rfl, .inl ⟨_, rfl, hz2, _, rfl, by rw [e0]; exact hz2, _, rfl, ?_, ?_⟩⟩
    · rw [Str.length_append, e0, show (Str.ofString " is out of its range").length = 20 from rfl]
      exact Nat.le_trans (Nat.add_le_add_right hz 20) (by decide)
    · refine hR _ _ ha ?_
      refine ⟨_, rfl, _, rfl, a, T.C_ShapeError, rfl, T.S_ShapeError.ox, T.S_ShapeError.na, .inl ⟨ha, fun dx h1 h2 => k dx h1 h2⟩⟩
end

section
variable {P : Program} {w : World} {K : PySem.W.Frag} {mg : Str → Option Value} {base : Heap}
theorem ok_LB (T : Txt K mg) : FnOk P w K mg base CX0 1 T.f_leaves_below T.d_leaves_below p_leaves_below spLB := by
  refine T.F_leaves_below.ok sc_leaves_below (fun vs H Q E h => ?_) (fun cdv A outer s H vs Q E hr h => ?_)
  · obtain ⟨f, d, rfl, _⟩ := h
    rfl
  · obtain ⟨f, d, rfl, f2, f4, d0, d6, k⟩ := h
    refine ⟨_, (pss_cons (ps_set (i := 2) sc_leaves_below.nd rfl (Or.inl rfl) pe_int)
      (pss_cons (ps_for PassesOwn.never rfl (pi_range1 rfl T.z_range (pa_cons (pv 1) pa_nil)) (pg_name (i := 3) sc_leaves_below.nd rfl (Or.inl rfl)) (pss_one (ps_set (i := 2) sc_leaves_below.nd rfl (Or.inl rfl) (pe_op op_mul (pv 2) (pv 0)))))
      (pss_one (ps_ret (pv 2))))), ?_⟩
    refine ⟨_, rfl, _, rfl, by omega, by omega, for_range (n := d.toNat) (fun i σ H' => ∃ (n : Int) (v : Option V), σ = [some (.int f), some (.int d), some (.int n), v] ∧ H' = H ∧ n = f ^ i) ⟨1, none, rfl, rfl, (Int.pow_zero f).symm⟩ ?_ ?_⟩
    · rintro i σ H' hi ⟨n, v, rfl, rfl, e⟩
      exact ⟨_, rfl, _, rfl, _, _, rfl, rfl, .inr ⟨by omega, by omega⟩, _, _, rfl, rfl, by rw [e]; exact (Int.pow_succ f i).symm⟩
    · rintro σ H' ⟨n, v, rfl, rfl, e⟩
      exact ⟨_, rfl, e ▸ k⟩
theorem ok_Dp (T : Txt K mg) : FnOk P w K mg base CX0 2 T.f_is_depth T.d_is_depth p_is_depth spDp := by
  have G_leaves_below : FnOk P w K mg base CX0 1 T.f_leaves_below T.d_leaves_below p_leaves_below spLB := ok_LB T
  refine T.F_is_depth.ok sc_is_depth (fun vs H Q E h => ?_) (fun cdv A outer s H vs Q E hr h => ?_)
  · obtain ⟨f, d, rfl, _⟩ := h
    rfl
  · obtain ⟨f, d, rfl, f2, f4, k⟩ := h
    refine ⟨_, (pss_one (ps_ret (pe_and (pe_chain op_le op_le pe_int (pv 1) (pe_glob (v := V.int 6) rfl T.mg_MOST_DEPTH ⟨_, rfl⟩)) (pe_one (pe_cmpR op_le (pe_call G_leaves_below (hr.mono (by decide)) rfl T.mg_leaves_below T.F_leaves_below.kp T.b_leaves_below .nil pass0 (pa_cons (pv 0) (pa_cons (pv 1) pa_nil))) (pe_glob (v := V.int 64) rfl T.mg_MOST_LEAVES ⟨_, rfl⟩) (nomark _)))))), ?_⟩
    -- 1 <= depth <= MOST_DEPTH
    refine ⟨_, rfl, _, _, rfl, rfl, _, rfl, ?_⟩
    refine ite2 (fun a => ?_) (fun a => ?_)
    · have a := of_decide_eq_true a
      refine ⟨_, _, rfl, rfl, _, rfl, ?_⟩
      refine ite2 (fun b => ?_) (fun b => ?_)
      · have b := of_decide_eq_true b
        refine ⟨_, rfl, _, rfl, _, _, rfl, f2, f4, by omega, b, ?_⟩
        refine ⟨_, _, rfl, rfl, ?_⟩
        exact k _ ⟨fun z => ⟨a, b, of_decide_eq_true z⟩, fun z => decide_eq_true z.2.2⟩
      · exact k _ ⟨fun z => (Bool.false_ne_true z).elim, fun z => (b (decide_eq_true z.2.1)).elim⟩
    · refine ⟨_, rfl, ?_⟩
      refine iteF ?_
      exact k _ ⟨fun z => (Bool.false_ne_true z).elim, fun z => (a (decide_eq_true z.1)).elim⟩
theorem ok_oor (T : Txt K mg) : FnOk P w K mg base CX0 3 T.f_out_of_range T.d_out_of_range p_out_of_range (spOor T.C_Shape) := by
  have G_is_depth : FnOk P w K mg base CX0 2 T.f_is_depth T.d_is_depth p_is_depth spDp := ok_Dp T
  refine T.F_out_of_range.ok sc_out_of_range (fun vs H Q E h => ?_) (fun cdv A outer s H vs Q E hr h => ?_)
  · obtain ⟨p, f, d, w, b, s, rfl, _⟩ := h
    rfl
  · obtain ⟨p, f, d, w, b, s, rfl, ⟨dx, hp⟩, k⟩ := h
    refine ⟨_, (pss_cons (ps_if (pt_not (pt_chain op_le op_le pe_int (pe_fld (pv 0) rfl) pe_int)) (pss_one (ps_ret pe_str)) pss_nil)
      (pss_cons (ps_if (pt_not (pt_truth (pe_call G_is_depth (hr.mono (by decide)) rfl T.mg_is_depth T.F_is_depth.kp T.b_is_depth .nil pass0 (pa_cons (pe_fld (pv 0) rfl) (pa_cons (pe_fld (pv 0) rfl) pa_nil))) (by intro _; rfl))) (pss_one (ps_ret pe_str)) pss_nil)
      (pss_cons (ps_if (pt_not (pt_chain op_le op_le pe_int (pe_fld (pv 0) rfl) pe_int)) (pss_one (ps_ret pe_str)) pss_nil)
      (pss_cons (ps_if (pt_not (pt_chain op_le op_le (pe_op op_add (pe_fld (pv 0) rfl) pe_int) (pe_fld (pv 0) rfl) (pe_glob (v := V.int 1000) rfl T.mg_MOST_BLOCKS ⟨_, rfl⟩))) (pss_one (ps_ret pe_str)) pss_nil)
      (pss_cons (ps_if (pt_not (pt_chain op_le op_le pe_int (pe_fld (pv 0) rfl) pe_int)) (pss_one (ps_ret pe_str)) pss_nil)
      (pss_one (ps_ret pe_non))))))), ?_⟩
    refine ⟨_, rfl, p, T.C_Shape, dx, _, _, rfl, hp, T.cl_Shape, T.na_Shape_fanout, rfl, _, _, rfl, rfl, ?_⟩
    have fin : ∀ {x : Option Str} {v : V}, oor f d w b s = x → v = optS x → Q v H := fun {x v} e1 e2 => by
      rw [e2, ← e1]; exact k
    have Bad1 : ¬ (2 ≤ f ∧ f ≤ 4) → oor f d w b s = some ("fanout" : Str) := fun z => by unfold oor; rw [if_pos z]
    refine ⟨_, rfl, ite2 (fun a => ?_) (fun a => ?_)⟩
    case' refine_2 => exact ⟨_, rfl, iteT (fin (Bad1 fun z => a (decide_eq_true z.1)) rfl)⟩
    have a := of_decide_eq_true a
    refine ⟨_, _, rfl, rfl, _, rfl, ite2 (fun c => ?_) (fun c => ?_)⟩
    case' refine_1 => exact fin (Bad1 fun z => (by rw [decide_eq_true z.2] at c; exact absurd c (by decide))) rfl
    have f1 : 2 ≤ f ∧ f ≤ 4 := ⟨a, by cases e : decide (f ≤ 4) with | true => exact of_decide_eq_true e | false => rw [e] at c; exact absurd rfl c⟩
    clear a c
    -- not is_depth(shape.fanout, shape.depth)
    have Bad2 : ¬ (1 ≤ d ∧ d ≤ 6 ∧ f ^ d.toNat ≤ 64) → oor f d w b s = some ("depth" : Str) := fun z => by unfold oor; rw [if_neg (not_not_intro f1), if_pos z]
    refine ⟨_, rfl, p, T.C_Shape, dx, _, _, rfl, hp, T.cl_Shape, T.na_Shape_fanout, rfl, _, rfl, p, T.C_Shape, dx, _, _, rfl, hp, T.cl_Shape, T.na_Shape_depth, rfl, f, d, rfl, f1.1, f1.2, fun r hr2 => ⟨_, rfl, ?_⟩⟩
    cases r with
    | false => exact iteT (fin (Bad2 fun z => Bool.false_ne_true (hr2.mpr z)) rfl)
    | true =>
    have f2 := hr2.mp rfl
    refine iteF ?_
    clear hr2
    have Bad3 : ¬ (1 ≤ w ∧ w ≤ 4) → oor f d w b s = some ("words" : Str) := fun z => by unfold oor; rw [if_neg (not_not_intro f1), if_neg (not_not_intro f2), if_pos z]
    refine ⟨_, rfl, p, T.C_Shape, dx, _, _, rfl, hp, T.cl_Shape, T.na_Shape_words, rfl, _, _, rfl, rfl, _, rfl, ite2 (fun a => ?_) (fun a => ?_)⟩
    case' refine_2 => exact ⟨_, rfl, iteT (fin (Bad3 fun z => a (decide_eq_true z.1)) rfl)⟩
    have a := of_decide_eq_true a
    refine ⟨_, _, rfl, rfl, _, rfl, ite2 (fun c => ?_) (fun c => ?_)⟩
    case' refine_1 => exact fin (Bad3 fun z => (by rw [decide_eq_true z.2] at c; exact absurd c (by decide))) rfl
    have f3 : 1 ≤ w ∧ w ≤ 4 := ⟨a, by cases e : decide (w ≤ 4) with | true => exact of_decide_eq_true e | false => rw [e] at c; exact absurd rfl c⟩
    clear a c
    have Bad4 : ¬ (d + 1 ≤ b ∧ b ≤ 1000) → oor f d w b s = some ("blocks" : Str) := fun z => by unfold oor; rw [if_neg (not_not_intro f1), if_neg (not_not_intro f2), if_neg (not_not_intro f3), if_pos z]
    refine ⟨_, rfl, p, T.C_Shape, dx, _, _, rfl, hp, T.cl_Shape, T.na_Shape_depth, rfl, _, _, rfl, rfl, _, rfl, p, T.C_Shape, dx, _, _, rfl, hp, T.cl_Shape, T.na_Shape_blocks, rfl, _, _, rfl, rfl, _, rfl, ite2 (fun a => ?_) (fun a => ?_)⟩
    case' refine_2 => exact ⟨_, rfl, iteT (fin (Bad4 fun z => a (decide_eq_true z.1)) rfl)⟩
    have a := of_decide_eq_true a
    refine ⟨_, _, rfl, rfl, _, rfl, ite2 (fun c => ?_) (fun c => ?_)⟩
    case' refine_1 => exact fin (Bad4 fun z => (by rw [decide_eq_true z.2] at c; exact absurd c (by decide))) rfl
    have f4 : d + 1 ≤ b ∧ b ≤ 1000 := ⟨a, by cases e : decide (b ≤ 1000) with | true => exact of_decide_eq_true e | false => rw [e] at c; exact absurd rfl c⟩
    clear a c
    have Bad5 : ¬ (0 ≤ s ∧ s ≤ 3) → oor f d w b s = some ("snapshots" : Str) := fun z => by unfold oor; rw [if_neg (not_not_intro f1), if_neg (not_not_intro f2), if_neg (not_not_intro f3), if_neg (not_not_intro f4), if_pos z]
    refine ⟨_, rfl, p, T.C_Shape, dx, _, _, rfl, hp, T.cl_Shape, T.na_Shape_snapshots, rfl, _, _, rfl, rfl, _, rfl, ite2 (fun a => ?_) (fun a => ?_)⟩
    case' refine_2 => exact ⟨_, rfl, iteT (fin (Bad5 fun z => a (decide_eq_true z.1)) rfl)⟩
    have a := of_decide_eq_true a
    refine ⟨_, _, rfl, rfl, _, rfl, ite2 (fun c => ?_) (fun c => ?_)⟩
    case' refine_1 => exact fin (Bad5 fun z => (by rw [decide_eq_true z.2] at c; exact absurd c (by decide))) rfl
    have f5 : 0 ≤ s ∧ s ≤ 3 := ⟨a, by cases e : decide (s ≤ 3) with | true => exact of_decide_eq_true e | false => rw [e] at c; exact absurd rfl c⟩
    exact fin (by unfold oor; rw [if_neg (not_not_intro f1), if_neg (not_not_intro f2), if_neg (not_not_intro f3), if_neg (not_not_intro f4), if_neg (not_not_intro f5)]) rfl
theorem ok_leaves (T : Txt K mg) : FnOk P w K mg base CX0 2 T.f_Shape_leaves T.d_Shape_leaves p_Shape_leaves (spLeaves T.C_Shape) := by
  have G_leaves_below : FnOk P w K mg base CX0 1 T.f_leaves_below T.d_leaves_below p_leaves_below spLB := ok_LB T
  refine T.F_Shape_leaves.ok sc_Shape_leaves (fun vs H Q E h => ?_) (fun cdv A outer s H vs Q E hr h => ?_)
  · obtain ⟨p, f, d, w, b, s, rfl, _⟩ := h
    rfl
  · obtain ⟨p, f, d, w, b, s, rfl, ⟨dx, hp⟩, ⟨h1, h2, h3, h4, _⟩, k⟩ := h
    refine ⟨_, (pss_one (ps_ret (pe_call G_leaves_below (hr.mono (by decide)) rfl T.mg_leaves_below T.F_leaves_below.kp T.b_leaves_below .nil pass0 (pa_cons (pe_fld (pv 0) rfl) (pa_cons (pe_fld (pv 0) rfl) pa_nil))))), ?_⟩
    exact ⟨_, rfl, p, T.C_Shape, dx, _, _, rfl, hp, T.cl_Shape, T.na_Shape_fanout, rfl, _, rfl, p, T.C_Shape, dx, _, _, rfl, hp, T.cl_Shape, T.na_Shape_depth, rfl, f, d, rfl, h1, h2, by omega, h4, k⟩

theorem ix_listK {X : Cx} {K : PySem.W.Frag} (e : X.K = K) : IxR X (rIxL K) := by
  subst e
  exact ix_list
theorem call_isEOK {X : Cx} {K : PySem.W.Frag} {a D : Addr} {cls : Value} {d : Option Addr} {oe : Obj} {pn : List (Addr × Obj)} (e : X.K = K) (C : ExcC K D) (hz : Zc cls d oe) (hf : ∃ vs, oe.data = .fields vs) : CallR (X.suite a ((a, oe) :: pn)) (.builtin "isinstance") (rIsEO K D a cls d) := by
  subst e
  exact call_isEO C hz hf
theorem bSE (T : Txt K mg) : Binds K T.d_ShapeError ["self", "name"] [] := by
  obtain ⟨oc, od, an, osl, cda, cc, kV, doc, pm, ct, e, _⟩ := T.S_ShapeError.ex
  rw [e]
  exact .all fun us hl => match us, hl with | [_, _], _ => rfl
theorem oor_len {f d w b s : Int} {z : Str} (h : oor f d w b s = some z) : z.length ≤ 100 := by
  unfold oor at h
  split at h
  · cases h; decide
  split at h
  · cases h; decide
  split at h
  · cases h; decide
  split at h
  · cases h; decide
  split at h
  · cases h; decide
  · cases h
def spShapeX (C Ce : Addr) : Sp := fun vs H Q E => ∃ (p dx : Addr) (f d w b s : Int), vs = [.ref p, .int f, .int d, .int w, .int b, .int s] ∧ H p = some (.ins C dx []) ∧ (oor f d w b s = none → Q .non (upd H p (.ins C dx (shF f d w b s)))) ∧
  ∀ z, oor f d w b s = some z → ∀ d', upd H p (.ins C dx (shF f d w b s)) d' = none → E (.ref Ce) (some d') (upd (upd H p (.ins C dx (shF f d w b s))) d' (.xd [("name", .str z)]))
theorem ok_ShapeX (T : Txt K mg) (hP : FileOk P T.file_ShapeError) : FnOk P w K mg base (L2.CX P w) 4 T.f_Shape___init__ T.d_Shape___init__ p_Shape___init__ (spShapeX T.C_Shape T.C_ShapeError) := by
  have G_out_of_range : FnOk P w K mg base CX0 3 T.f_out_of_range T.d_out_of_range p_out_of_range (spOor T.C_Shape) := ok_oor T
  have G_ShapeError : FnOk P w K mg base CX0 1 T.f_ShapeError T.d_ShapeError ["self", "name"] (spSE T.C_ShapeError) := ok_SE T hP
  refine T.F_Shape___init__.ok sc_Shape___init__ (fun vs H Q E h => ?_) (fun cdv A outer s H vs Q E hr h => ?_)
  · obtain ⟨p, dx, f, d, w, b, s, rfl, _⟩ := h
    rfl
  · obtain ⟨p, dx, f, d, w, b, s, rfl, hp, k1, k2⟩ := h
    refine ⟨_, (pss_cons (ps_fld (pv 0) (pv 1) rfl)
      (pss_cons (ps_fld (pv 0) (pv 2) rfl)
      (pss_cons (ps_fld (pv 0) (pv 3) rfl)
      (pss_cons (ps_fld (pv 0) (pv 4) rfl)
      (pss_cons (ps_fld (pv 0) (pv 5) rfl)
      (pss_cons (ps_set (i := 6) sc_Shape___init__.nd rfl (Or.inl rfl) (pe_call G_out_of_range (hr.mono (by decide)) rfl T.mg_out_of_range T.F_out_of_range.kp T.b_out_of_range .nil pass0 (pa_cons (pv 0) pa_nil)))
      (pss_one (ps_if (pt_cmpR op_notN (pv 6) pe_non (nomark _)) (pss_one (ps_raise rfl (takes_of rfl rfl rfl rfl) (pmk_oex T.S_ShapeError.ox T.S_ShapeError.ini T.S_ShapeError.ty G_ShapeError (hr.mono (by decide)) (bSE T) .nil pass0 rfl T.mg_ShapeError (pa_cons (pv 6) pa_nil)))) pss_nil)))))))), ?_⟩
    refine ⟨_, rfl, _, rfl, p, T.C_Shape, dx, _, rfl, hp, T.cl_Shape, T.na_Shape_fanout, (by show 0 < 1000; decide), ?_⟩
    refine ⟨_, rfl, _, rfl, p, T.C_Shape, dx, _, rfl, upd_same, T.cl_Shape, T.na_Shape_depth, (by show 1 < 1000; decide), ?_⟩
    refine ⟨_, rfl, _, rfl, p, T.C_Shape, dx, _, rfl, upd_same, T.cl_Shape, T.na_Shape_words, (by show 2 < 1000; decide), ?_⟩
    refine ⟨_, rfl, _, rfl, p, T.C_Shape, dx, _, rfl, upd_same, T.cl_Shape, T.na_Shape_blocks, (by show 3 < 1000; decide), ?_⟩
    refine ⟨_, rfl, _, rfl, p, T.C_Shape, dx, _, rfl, upd_same, T.cl_Shape, T.na_Shape_snapshots, (by show 4 < 1000; decide), ?_⟩
    rw [upd_upd, upd_upd, upd_upd, upd_upd]
    refine ⟨_, rfl, p, f, d, w, b, s, rfl, ⟨dx, upd_same⟩, ?_⟩
    cases e : oor f d w b s with
    | none =>
      refine ⟨_, rfl, rfl, _, rfl, ?_⟩
      exact iteF (k1 e)
    | some z =>
      refine ⟨_, rfl, rfl, _, rfl, ?_⟩
      refine iteT ?_
      refine ⟨_, rfl, (by show 1 ≤ 1000; decide), fun a ha => ?_⟩
      refine ⟨a, z, rfl, oor_len e, upd_same, fun d' h1 h2 => ⟨rfl, d', _, upd_same, by rw [upd_ne h2, upd_same], ?_, ?_⟩⟩
      · rw [upd_ne h2] at h1
        exact h1
      · rw [upd_ne h2] at h1
        have eH : upd (del (upd (upd (upd (upd H p (.ins T.C_Shape dx (shF f d w b s))) a (exo a T.C_ShapeError none)) d' (exd d' [("name", .str z)])) a (exo a T.C_ShapeError (some d'))) a) d' (.xd [("name", .str z)]) = upd (upd H p (.ins T.C_Shape dx (shF f d w b s))) d' (.xd [("name", .str z)]) := by
          funext x
          by_cases hx : x = d'
          · rw [hx, upd_same, upd_same]
          · rw [upd_ne hx, upd_ne hx]
            by_cases hx2 : x = a
            · rw [hx2, del_same]
              exact ha.symm
            · rw [del_ne hx2, upd_ne hx2, upd_ne hx, upd_ne hx2]
        have k3 := k2 z e d' h1
        rw [← eH] at k3
        exact k3
def spMade (K : PySem.W.Frag) (C : Addr) : Sp := fun vs H Q _ => ∃ (l : Addr) (f d w b s : Int), vs = [.ref l] ∧ SqL K H l ([f, d, w, b, s].map V.int) ∧
  (oor f d w b s = none → ∀ p H', H p = none → Same H H' → ShAt C H' p f d w b s → Q (.ref p) H') ∧
  ∀ z, oor f d w b s = some z → ∀ t H', H t = none → Same H H' → H' t = some (.tup [.str "error", .str z]) → Q (.ref t) H'
theorem ok_made (T : Txt K mg) (hP : FileOk P T.file_ShapeError) : FnOk P w K mg base CX0 6 T.f__law_made T.d__law_made p__law_made (spMade K T.C_Shape) := by
  have G_Shape___init__ : FnOk P w K mg base (L2.CX P w) 4 T.f_Shape___init__ T.d_Shape___init__ p_Shape___init__ (spShapeX T.C_Shape T.C_ShapeError) := ok_ShapeX T hP
  refine T.F__law_made.ok sc__law_made (fun vs H Q E h => ?_) (fun cdv A outer s H vs Q E hr h => ?_)
  · obtain ⟨l, f, d, w, b, s, rfl, _⟩ := h
    rfl
  · obtain ⟨l, f, d, w, b, s, rfl, hl, k1, k2⟩ := h
    refine ⟨_, (pss_one (ps_try_as rfl rfl sc__law_made.nd (i := 1) rfl rfl ⟨rfl, by decide, .inl T.mg_ShapeError⟩ takes0 (fun W pn xe tk po => (pss_one (ps_ret (pe_makeKS (E := WE W) T.M_Shape G_Shape___init__ (hr.mono (by decide)) rfl T.mg_Shape T.kb_Shape (fun σ => passAt tk σ)
      (pk_cons (pe_ix (ix_listK (K := K) rfl) (pv 0) pe_int (fun _ _ => rfl)) (pk_cons (pe_ix (ix_listK (K := K) rfl) (pv 0) pe_int (fun _ _ => rfl)) (pk_cons (pe_ix (ix_listK (K := K) rfl) (pv 0) pe_int (fun _ _ => rfl)) (pk_cons (pe_ix (ix_listK (K := K) rfl) (pv 0) pe_int (fun _ _ => rfl)) (pk_cons (pe_ix (ix_listK (K := K) rfl) (pv 0) pe_int (fun _ _ => rfl)) pk_nil)))))))))
      (fun a oe cls d pn hz hf => (pss_cons (ps_if (PW.pt (pw_or (pt_not (pt_val (pe_callB (call_isEOK (K := K) rfl T.S_ShapeError.exc hz hf) (by rfl) T.z_isinstance (by decide +kernel) (pa_cons (pv 1) (pa_cons (pe_glob (v := V.ref T.C_CaissonError) rfl T.mg_CaissonError rfl) pa_nil)))))
        (pw_or1 (pt_not (pt_val (pe_callB (call_isEOK (K := K) rfl T.S_ShapeError.exc hz hf) (by rfl) T.z_isinstance (by decide +kernel) (pa_cons (pv 1) (pa_cons (pe_bltn (v := V.ty "ValueError") (by rfl) T.z_ValueError (by decide +kernel) rfl) pa_nil))))))))
        (pss_one (ps_ret (pe_tup (pa_cons pe_str pa_nil)))) pss_nil) (pss_one (ps_ret (pe_tup (pa_cons pe_str (pa_cons (pe_xf T.S_ShapeError.xf T.S_ShapeError.na hz hf (pv 1)) pa_nil))))))))), ?_⟩
    refine ⟨_, rfl, l, _, _, _, rfl, rfl, hl, atI_nat (j := 0) rfl, ?_⟩
    refine ⟨_, rfl, l, _, _, _, rfl, rfl, hl, atI_nat (j := 1) rfl, ?_⟩
    refine ⟨_, rfl, l, _, _, _, rfl, rfl, hl, atI_nat (j := 2) rfl, ?_⟩
    refine ⟨_, rfl, l, _, _, _, rfl, rfl, hl, atI_nat (j := 3) rfl, ?_⟩
    refine ⟨_, rfl, l, _, _, _, rfl, rfl, hl, atI_nat (j := 4) rfl, ?_⟩
    refine ⟨rfl, fun p dx hp hdx nex => ?_⟩
    have hq : p ≠ dx := fun e => nex e.symm
    have SS : ∀ fs, Same H (upd (upd (upd H dx (.own p)) p (.ins T.C_Shape dx [])) p (.ins T.C_Shape dx fs)) := fun fs x o e => by
      have n1 := ne_of_none e hp
      have n2 := ne_of_none e hdx
      rw [upd_ne n1, upd_ne n1, upd_ne n2]; exact e
    refine ⟨p, dx, f, d, w, b, s, rfl, upd_same, fun e => ⟨rfl, k1 e p _ hp (SS _) ⟨dx, upd_same⟩⟩, fun z e d' hd' => ?_⟩
    refine ⟨true, T.S_ShapeError.exm, fun _ a ha => ?_, fun z => by cases z⟩
    refine ⟨_, rfl, _, _, _, _, _, rfl, rfl, rfl, upd_same, fun u h => h, T.S_ShapeError.kitB, ?_⟩
    refine ⟨_, rfl, iteF ?_⟩
    refine ⟨_, rfl, _, _, _, _, _, rfl, rfl, rfl, upd_same, fun u h => h, T.S_ShapeError.kitV, ?_⟩
    refine ⟨_, rfl, iteF ?_⟩
    refine ⟨_, rfl, rfl, rfl, _, _, _, rfl, upd_same, rfl, ?_⟩
    refine ⟨(by show 2 ≤ sizeLine; decide), fun t ht => ?_⟩
    have nt : t ≠ d' := fun q => by rw [q, upd_same] at ht; cases ht
    have S3 : Same H (upd (upd (upd (upd (upd H dx (.own p)) p (.ins T.C_Shape dx [])) p (.ins T.C_Shape dx (shF f d w b s))) d' (.xd [("name", .str z)])) t (.tup [.str "error", .str z])) := (SS _).trans ((Same.new hd').trans (Same.new ht))
    refine k2 z e t _ ?_ S3 upd_same
    have g := (SS (shF f d w b s)).trans (Same.new (o := .xd [("name", .str z)]) hd')
    cases zz : H t with
    | none => rfl
    | some o => rw [g _ _ zz] at ht; cases ht

theorem ok_state (T : Txt K mg) : FnOk P w K mg base CX0 1 T.f__law_state T.d__law_state p__law_state (spState K) := by
  refine T.F__law_state.ok sc__law_state (fun vs H Q E h => ?_) (fun cdv A outer s H vs Q E hr h => ?_)
  · obtain ⟨l, ns, rfl, _⟩ := h
    rfl
  · obtain ⟨l, ns, rfl, hS, hlen, k⟩ := h
    refine ⟨_, (pss_cons (ps_set (i := 1) sc__law_state.nd rfl (Or.inl rfl) pe_int)
      (pss_cons (ps_for PassesOwn.never rfl (pi_list (pv 0)) (pg_name (i := 2) sc__law_state.nd rfl (Or.inl rfl)) (pss_one (ps_set (i := 1) sc__law_state.nd rfl (Or.inl rfl) (pe_op op_modN (pe_callTy call_int1 (by rfl) T.z_int (by decide +kernel) (pa_cons (pe_op op_add (pe_op op_mul (pv 1) pe_int) (pv 2)) pa_nil)) pe_int))))
      (pss_one (ps_ret (pe_lst (pa_cons (pe_lc (own := [("cell", 2)]) (g := gName 2) (tt := tYes) rfl sc__law_state.nd (pi_list (pv 0)) (blkOk_by (N := n__law_state) (sc := defScope s__law_state) (by decide +kernel)) (fun _ _ _ _ _ => (pg_name (i := 2) sc__law_state.nd rfl (Or.inl rfl))) (fun _ _ _ _ _ => pts_nil) (fun _ _ _ _ _ => (pe_callB call_abs (by rfl) T.z_abs (by decide +kernel) (pa_cons (pv 2) pa_nil)))) (pa_cons (pe_op op_add (pv 1) pe_int) pa_nil))))))), ?_⟩
    refine ⟨_, rfl, l, rfl, ⟨_, hS⟩, for_list (K := K) (a := l) (xs := ns.map V.int) (fun i σ H' => ∃ (z : Int) (v : Option V), σ = [some (.ref l), some (.int z), v] ∧ H' = H ∧ 0 ≤ z ∧ z < 1000003)
      ⟨7, none, rfl, rfl, by decide, by decide⟩ (fun i σ H' _ ⟨_, _, _, e, _⟩ => e ▸ hS) ?_ ?_⟩
    · rintro i y σ H' hi ⟨z, v, rfl, rfl, h0, h1⟩
      obtain ⟨u, _, rfl⟩ := int_at hi
      refine ⟨_, rfl, _, _, rfl, rfl, .inl ⟨by omega, by omega⟩, _, rfl, _, _, rfl, rfl, .inl ⟨_, rfl, _, _, rfl, rfl, (by show (1000003 : Int) ≠ 0; decide), ?_⟩⟩
      exact ⟨_, _, rfl, rfl, by rw [Int.fmod_eq_emod_of_nonneg _ (by decide)]; omega, by rw [Int.fmod_eq_emod_of_nonneg _ (by decide)]; omega⟩
    · rintro σ H' ⟨z, v, rfl, rfl, h0, h1⟩
      refine ⟨_, rfl, l, rfl, ⟨_, hS⟩, fun D hD => lc_list (K := K) (xs := ns.map V.int) (fun i H2 => ∃ ms : List Int, H2 = upd H' D (.lst (ms.map V.int)) ∧ ms.length = i ∧ ∀ m ∈ ms, 0 ≤ m) ⟨[], rfl, rfl, by simp⟩ ?_ ?_ ?_⟩
      · rintro i H2 _ ⟨ms, rfl, _, _⟩
        exact Same.seq (fun b o e => by rw [upd_ne (ne_of_none e hD)]; exact e) hS
      · rintro i y H2 hi ⟨ms, rfl, hl, hp⟩
        obtain ⟨u, hu, rfl⟩ := int_at hi
        have hi2 : i < ns.length := (List.getElem?_eq_some_iff.mp hu).1
        refine ⟨rfl, _, rfl, _, rfl, _, upd_same, small1000 (by rw [List.length_map]; omega), ms ++ [if u < 0 then -u else u], ?_, by simp [hl], fun m hm => ?_⟩
        · rw [upd_upd, List.map_append]; rfl
        · rcases List.mem_append.mp hm with q | q
          · exact hp m q
          · rw [List.mem_singleton.mp q]; split <;> omega
      · rintro H2 ⟨ms, rfl, hl, hp⟩
        rw [List.length_map] at hl
        refine ⟨_, rfl, _, _, rfl, rfl, (by show 2 ≤ sizeLine; decide), fun a ha => ?_⟩
        have hD2 : D ≠ a := fun e => by rw [e, upd_same] at ha; cases ha
        refine k a D _ ?_ hD ⟨ms, _, hD2.symm, upd_same, by rw [upd_ne hD2, upd_same], by omega, hp, by omega, by omega⟩ fun b o e => ?_
        · rw [upd_ne hD2.symm] at ha
          exact ha
        · rw [upd_ne (fun q => ?_), upd_ne (ne_of_none e hD)]
          · exact e
          · rw [q] at e
            rw [upd_ne hD2.symm, e] at ha
            cases ha
theorem ok_draw (T : Txt K mg) : FnOk P w K mg base CX0 1 T.f__law_draw T.d__law_draw p__law_draw spDraw := by
  refine T.F__law_draw.ok sc__law_draw (fun vs H Q E h => ?_) (fun cdv A outer s H vs Q E hr h => ?_)
  · obtain ⟨a, c, m, rfl, _⟩ := h
    rfl
  · obtain ⟨a, c, m, rfl, hS, h1, h2, k⟩ := h
    have S0 := hS
    obtain ⟨ns, z, hac, ha, hc, hl, hp, z0, z1⟩ := hS
    refine ⟨_, (pss_cons (ps_set (i := 2) sc__law_draw.nd rfl (Or.inl rfl) (pe_ix ix_list (pv 0) pe_int (fun _ _ => rfl)))
      (pss_cons (ps_while PassesOwn.never (PW.pt (pw_and (pt_cmpR op_gt (pe_callB call_len_seq (by rfl) T.z_len PySem.boot_len (pa_cons (pv 2) pa_nil)) pe_int (nomark _)) (pw_and1 (pt_cmpR op_eq (pe_ix ix_list (pv 2) pe_int (fun _ _ => rfl)) pe_int (nomark _))))) (pss_one (ps_expr (pe_bm PySem.F.plainAttrs_list PySem.F.slot_list_pop PySem.F.type_list_pop mt_popAt (pv 2) (pa_cons pe_int pa_nil)))))
      (pss_cons (ps_if (pt_cmpR op_gt (pe_callB call_len_seq (by rfl) T.z_len PySem.boot_len (pa_cons (pv 2) pa_nil)) pe_int (nomark _)) (pss_cons (ps_set (i := 3) sc__law_draw.nd rfl (Or.inl rfl) (pe_ix ix_list (pv 2) pe_int (fun _ _ => rfl)))
      (pss_cons (ps_asg (pe_op op_fdivN (pv 3) (pv 1)) (pg_sub (pv 2) pe_int set_list))
      (pss_one (ps_ret (pe_op op_modN (pe_callTy call_int1 (by rfl) T.z_int (by decide +kernel) (pa_cons (pv 3) pa_nil)) (pv 1)))))) pss_nil)
      (pss_cons (ps_set (i := 4) sc__law_draw.nd rfl (Or.inl rfl) (pe_op op_modN (pe_callTy call_int1 (by rfl) T.z_int (by decide +kernel) (pa_cons (pe_op op_add (pe_op op_mul (pe_ix ix_list (pv 0) pe_int (fun _ _ => rfl)) pe_int) pe_int) pa_nil)) pe_int))
      (pss_cons (ps_asg (pv 4) (pg_sub (pv 0) pe_int set_list))
      (pss_one (ps_ret (pe_op op_modN (pe_callTy call_int1 (by rfl) T.z_int (by decide +kernel) (pa_cons (pe_op op_fdivN (pv 4) pe_int) pa_nil)) (pv 1))))))))), ?_⟩
    refine ⟨_, rfl, a, _, _, _, rfl, rfl, SqL.of ha, rfl, ?_⟩
    have hac' : c ≠ a := fun e => hac e.symm
    have hA : ∀ o, (upd H c o) a = some (.lst [.ref c, .int z]) := fun o => by rw [upd_ne hac]; exact ha
    have fin : ∀ (xs : List Int), xs.length ≤ 63 → (∀ n ∈ xs, 0 ≤ n) → StA a c (upd H c (.lst (xs.map V.int))) := fun xs q1 q2 => ⟨xs, z, hac, hA _, upd_same, q1, q2, z0, z1⟩
    have hm : m ≠ 0 := by omega
    have hmm : m.natAbs < 1073741824 := by omega
    refine ⟨fun n σ H' => ∃ (ns' : List Int), n = ns'.length ∧ σ = [some (.ref a), some (.int m), some (.ref c), none, none] ∧ H' = upd H c (.lst (ns'.map V.int)) ∧ ns'.length ≤ 63 ∧ ∀ n ∈ ns', 0 ≤ n,
      ⟨_, ns, rfl, rfl, (upd_eq hc).symm, hl, hp⟩, ?_⟩
    rintro n0 σ H' ⟨ns', rfl, rfl, rfl, hl', hp'⟩
    refine ⟨_, rfl, c, _, rfl, .inl (SqL.of upd_same), _, _, rfl, rfl, _, rfl, ?_⟩
    cases ns' with
    | nil =>
      refine iteF ?_
      refine iteF ?_
      refine ⟨_, rfl, c, _, rfl, .inl (SqL.of upd_same), _, _, rfl, rfl, _, rfl, ?_⟩
      refine iteF ?_
      refine ⟨_, rfl, a, _, _, _, rfl, rfl, SqL.of (hA _), rfl, _, _, rfl, rfl, .inl ⟨by omega, by omega⟩, _, _, rfl, rfl, .inl ⟨_, rfl, _, _, rfl, rfl, (by show (2147483647 : Int) ≠ 0; decide), ?_⟩⟩
      have q0 : 0 ≤ Int.fmod (z * 48271 + 12345) 2147483647 := by rw [Int.fmod_eq_emod_of_nonneg _ (by decide)]; omega
      have q1 : Int.fmod (z * 48271 + 12345) 2147483647 < 2147483647 := by rw [Int.fmod_eq_emod_of_nonneg _ (by decide)]; omega
      refine ⟨_, rfl, _, rfl, a, _, _, 1, rfl, rfl, hA _, rfl, ?_⟩
      refine ⟨_, rfl, _, _, rfl, rfl, ⟨by decide, by decide⟩, .inl ⟨_, rfl, _, rfl, _, _, rfl, rfl, hm, ?_⟩⟩
      refine k _ _ (by rw [Int.fmod_eq_emod_of_nonneg _ (by omega)]; exact Int.emod_nonneg _ hm) (by rw [Int.fmod_eq_emod_of_nonneg _ (by omega)]; exact Int.emod_lt_of_pos _ (by omega))
        ⟨[], Int.fmod (z * 48271 + 12345) 2147483647, hac, upd_same, by rw [upd_ne hac', upd_same], by decide, by simp, q0, q1⟩ (Kp.refl H).upd2.upd1
    | cons n r =>
      have n0 : 0 ≤ n := hp' n List.mem_cons_self
      have len0 : (0 : Int) < (((n :: r).map V.int).length : Nat) := by simp only [List.length_map, List.length_cons]; omega
      refine iteDT len0 ?_
      refine ⟨_, rfl, c, _, _, _, rfl, rfl, SqL.of upd_same, atI_nat (j := 0) rfl, rfl, _, rfl, ?_⟩
      refine ite2 (fun e => ?_) (fun e => ?_)
      · refine ⟨_, fun _ _ h => h, ?_⟩
        refine ⟨_, rfl, .inl ⟨rfl, _, SqL.of upd_same⟩, c, _, 0, 0, _, rfl, rfl, upd_same, by decide, by decide, seqIx_nat (j := 0) (by simp), rfl, ?_⟩
        refine ⟨r.length, Nat.lt_succ_self _, r, rfl, rfl, by rw [upd_upd]; rfl, by simp only [List.length_cons] at hl'; omega, fun x hx => hp' x (List.mem_cons_of_mem _ hx)⟩
      · refine ⟨_, rfl, c, _, rfl, .inl (SqL.of upd_same), _, _, rfl, rfl, _, rfl, ?_⟩
        refine iteDT len0 ?_
        refine ⟨_, rfl, c, _, _, _, rfl, rfl, SqL.of upd_same, atI_nat (j := 0) rfl, ?_⟩
        refine ⟨_, rfl, _, rfl, _, _, rfl, rfl, ⟨hm, hmm⟩, _, rfl, c, _, _, 0, rfl, rfl, upd_same, ixN_nat (j := 0) (by simp), ?_⟩
        refine ⟨_, rfl, .inl ⟨_, rfl, _, rfl, _, _, rfl, rfl, hm, ?_⟩⟩
        refine k _ _ (by rw [Int.fmod_eq_emod_of_nonneg _ (by omega)]; exact Int.emod_nonneg _ hm) (by rw [Int.fmod_eq_emod_of_nonneg _ (by omega)]; exact Int.emod_lt_of_pos _ (by omega))
          ?_ (Kp.refl H).upd2.upd2
        rw [upd_upd]
        refine fin (n.fdiv m :: r) hl' fun x hx => ?_
        rcases List.mem_cons.mp hx with rfl | hx
        · rw [Int.fdiv_eq_ediv_of_nonneg _ (by omega)]
          exact Int.ediv_nonneg n0 (by omega)
        · exact hp' x (List.mem_cons_of_mem _ hx)

theorem pe_fldK {X : Cx} {K : PySem.W.Frag} {e : Expr} {ta : TE} {f : Str} {pos : Pos} (eK : X.K = K) (he : PE X e ta) (hb : attributeBase e f X.env (eval e X.env) = eval e X.env) : PE X (.Attribute e f pos) (tFld K ta f) := by
  subst eK
  exact pe_fld he hb
def spNear : Sp := fun vs H Q _ => ∃ (a c : Addr) (l g : Int), vs = [.ref a, .int l, .int g] ∧ StA a c H ∧ l ≤ g ∧ g - l < 2000 ∧ ∀ (r : Int) (H' : Hp), l - 1 ≤ r → r ≤ g + 1 → StA a c H' → Kp a c H H' → Q (.int r) H'
theorem pickQ {a c q : Addr} {H1 H2 : Hp} {o : HO} (S1 : StA a c H1) (hq : H1 q = none) (K2 : Kp a c (upd H1 q o) H2) : H2 q = some o := by
  refine K2 q o (fun e => ?_) (fun e => ?_) upd_same
  · obtain ⟨x, h⟩ := S1.some1
    rw [← e, hq] at h; cases h
  · obtain ⟨x, h⟩ := S1.some2
    rw [← e, hq] at h; cases h
theorem ok_near (T : Txt K mg) : FnOk P w K mg base CX0 2 T.f__law_near T.d__law_near p__law_near spNear := by
  have G__law_draw : FnOk P w K mg base CX0 1 T.f__law_draw T.d__law_draw p__law_draw spDraw := ok_draw T
  refine T.F__law_near.ok sc__law_near (fun vs H Q E h => ?_) (fun cdv A outer s H vs Q E hr h => ?_)
  · obtain ⟨a, c, l, g, rfl, _⟩ := h
    rfl
  · obtain ⟨a, c, l, g, rfl, S0, lg, gl, k⟩ := h
    refine ⟨_, (pss_cons (ps_set (i := 3) sc__law_near.nd rfl (Or.inl rfl) (pe_call G__law_draw (hr.mono (by decide)) rfl T.mg__law_draw T.F__law_draw.kp T.b__law_draw .nil pass0 (pa_cons (pv 0) (pa_cons pe_int pa_nil))))
      (pss_cons (ps_if (pt_cmpR op_eq (pv 3) pe_int (nomark _)) (pss_one (ps_ret (pe_ix ix_list (pe_lst (pa_cons (pe_op op_sub (pv 1) pe_int) (pa_cons (pe_op op_add (pv 2) pe_int) pa_nil))) (pe_call G__law_draw (hr.mono (by decide)) rfl T.mg__law_draw T.F__law_draw.kp T.b__law_draw .nil pass0 (pa_cons (pv 0) (pa_cons pe_int pa_nil))) (fun _ _ => rfl)))) pss_nil)
      (pss_cons (ps_if (pt_cmpR op_eq (pv 3) pe_int (nomark _)) (pss_one (ps_ret (pe_ix ix_list (pe_lst (pa_cons (pv 1) (pa_cons (pv 2) pa_nil))) (pe_call G__law_draw (hr.mono (by decide)) rfl T.mg__law_draw T.F__law_draw.kp T.b__law_draw .nil pass0 (pa_cons (pv 0) (pa_cons pe_int pa_nil))) (fun _ _ => rfl)))) pss_nil)
      (pss_one (ps_ret (pe_op op_add (pv 1) (pe_call G__law_draw (hr.mono (by decide)) rfl T.mg__law_draw T.F__law_draw.kp T.b__law_draw .nil pass0 (pa_cons (pv 0) (pa_cons (pe_op op_add (pe_op op_sub (pv 2) (pv 1)) pe_int) pa_nil))))))))), ?_⟩
    refine ⟨_, rfl, a, c, 6, rfl, S0, by decide, by decide, fun r1 H1 a1 b1 S1 K1 => ?_⟩
    refine ⟨_, rfl, rfl, _, rfl, ite2 (fun e => ?_) (fun e => ?_)⟩
    · refine ⟨_, rfl, _, _, rfl, rfl, _, rfl, _, _, rfl, rfl, (by show 2 ≤ sizeLine; decide), fun q hq => ?_⟩
      refine ⟨_, rfl, a, c, 2, rfl, S1.keep (Same.new hq), by decide, by decide, fun r2 H2 a2 b2 S2 K2 => ?_⟩
      have hq2 := pickQ S1 hq K2
      have K02 : Kp a c H H2 := K1.trans ((Kp.same (Same.new hq)).trans K2)
      have z : r2 = 0 ∨ r2 = 1 := by omega
      rcases z with rfl | rfl
      · exact ⟨q, _, _, _, rfl, rfl, SqL.of hq2, atI_nat (j := 0) rfl, k _ _ (by omega) (by omega) S2 K02⟩
      · exact ⟨q, _, _, _, rfl, rfl, SqL.of hq2, atI_nat (j := 1) rfl, k _ _ (by omega) (by omega) S2 K02⟩
    · refine ⟨_, rfl, rfl, _, rfl, ite2 (fun e => ?_) (fun e => ?_)⟩
      · refine ⟨_, rfl, _, rfl, (by show 2 ≤ sizeLine; decide), fun q hq => ?_⟩
        refine ⟨_, rfl, a, c, 2, rfl, S1.keep (Same.new hq), by decide, by decide, fun r2 H2 a2 b2 S2 K2 => ?_⟩
        have hq2 := pickQ S1 hq K2
        have K02 : Kp a c H H2 := K1.trans ((Kp.same (Same.new hq)).trans K2)
        have z : r2 = 0 ∨ r2 = 1 := by omega
        rcases z with rfl | rfl
        · exact ⟨q, _, _, _, rfl, rfl, SqL.of hq2, atI_nat (j := 0) rfl, k _ _ (by omega) (by omega) S2 K02⟩
        · exact ⟨q, _, _, _, rfl, rfl, SqL.of hq2, atI_nat (j := 1) rfl, k _ _ (by omega) (by omega) S2 K02⟩
      · refine ⟨_, rfl, _, rfl, _, rfl, _, rfl, _, _, rfl, rfl, _, _, rfl, rfl, a, c, _, rfl, S1, by omega, by omega, fun r2 H2 a2 b2 S2 K2 => ⟨_, _, rfl, rfl, ?_⟩⟩
        exact k _ _ (by omega) (by omega) S2 (K1.trans K2)
/-- the powers of f below n + 1 -/
def powL (f : Int) (n : Nat) : List Int := (List.range (n + 1)).map fun i => f ^ i
theorem powL_succ (f : Int) (n : Nat) : powL f (n + 1) = powL f n ++ [f ^ (n + 1)] := by
  unfold powL
  rw [List.range_succ, List.map_append]; rfl
theorem powL_get (f : Int) (n : Nat) : (powL f n)[n]? = some (f ^ n) := by
  unfold powL
  rw [List.getElem?_map, List.getElem?_range (Nat.lt_succ_self n)]; rfl
theorem powL_len (f : Int) (n : Nat) : (powL f n).length = n + 1 := by simp [powL]
theorem powL_sum (f : Int) : ∀ n : Nat, (powL f n).sum = cN f (n + 1)
  | 0 => by simp [powL, cN]
  | n + 1 => by
    rw [powL_succ, List.sum_append, powL_sum f n]
    simp [cN]
def spLev : Sp := fun vs H Q _ => ∃ f d : Int, vs = [.int f, .int d] ∧ 1 ≤ f ∧ f ≤ 5 ∧ 0 ≤ d ∧ d ≤ 7 ∧ ∀ (t : Addr) (H' : Hp), H t = none → Same H H' → H' t = some (.lst ((powL f d.toNat).map V.int)) → Q (.ref t) H'
theorem ok_lev (T : Txt K mg) : FnOk P w K mg base CX0 1 T.f__law_levels T.d__law_levels p__law_levels spLev := by
  refine T.F__law_levels.ok sc__law_levels (fun vs H Q E h => ?_) (fun cdv A outer s H vs Q E hr h => ?_)
  · obtain ⟨f, d, rfl, _⟩ := h
    rfl
  · obtain ⟨f, d, rfl, f1, f5, d0, d7, k⟩ := h
    refine ⟨_, (pss_cons (ps_set (i := 2) sc__law_levels.nd rfl (Or.inl rfl) (pe_lst (pa_cons pe_int pa_nil)))
      (pss_cons (ps_for PassesOwn.never rfl (pi_range1 rfl T.z_range (pa_cons (pv 1) pa_nil)) (pg_name (i := 3) sc__law_levels.nd rfl (Or.inl rfl)) (pss_one (ps_expr (pe_bm PySem.F.plainAttrs_list PySem.F.slot_list_append PySem.F.type_list_append mt_append (pv 2) (pa_cons (pe_op op_mul (pe_ix ix_list (pv 2) (pv 3) (fun _ _ => rfl)) (pv 0)) pa_nil)))))
      (pss_one (ps_ret (pv 2))))), ?_⟩
    refine ⟨(by show 1 ≤ sizeLine; decide), fun q hq => ?_⟩
    refine ⟨_, rfl, _, rfl, by omega, by omega, for_range (n := d.toNat) (fun i σ H' => ∃ v : Option V, σ = [some (.int f), some (.int d), some (.ref q), v] ∧ H' = upd H q (.lst ((powL f i).map V.int))) ⟨none, rfl, by show _ = upd H q (.lst (([f ^ 0] : List Int).map V.int)); rw [Int.pow_zero]; rfl⟩ ?_ ?_⟩
    · rintro i σ H' hi ⟨v, rfl, rfl⟩
      rw [show (0 : Int) + (i : Nat) = (i : Nat) from Int.zero_add _]
      have hg : ((powL f i).map V.int)[i]? = some (.int (f ^ i)) := by rw [List.getElem?_map, powL_get]; rfl
      refine ⟨_, rfl, .inl ⟨rfl, _, SqL.of upd_same⟩, _, rfl, _, rfl, q, _, _, _, rfl, rfl, SqL.of upd_same, atI_nat hg, _, rfl, _, _, rfl, rfl, .inr ⟨by omega, by omega⟩, q, _, _, rfl, rfl, upd_same, small1000 (by rw [List.length_map, powL_len]; omega), ?_⟩
      refine ⟨_, rfl, ?_⟩
      rw [upd_upd, powL_succ, List.map_append, Int.pow_succ]; rfl
    · rintro σ H' ⟨v, rfl, rfl⟩
      exact ⟨_, rfl, k q _ hq (Same.new hq) upd_same⟩
def spCells (C : Addr) : Sp := fun vs H Q _ => ∃ (p : Addr) (f d w b s : Int), vs = [.ref p] ∧ ShAt C H p f d w b s ∧ ShOk f d w b s ∧ ∀ H', Same H H' → Q (.int (cN f (d.toNat + 1))) H'
theorem ok_cells (T : Txt K mg) : FnOk P w K mg base CX0 2 T.f_Shape_cells T.d_Shape_cells p_Shape_cells (spCells T.C_Shape) := by
  have G_leaves_below : FnOk P w K mg base CX0 1 T.f_leaves_below T.d_leaves_below p_leaves_below spLB := ok_LB T
  refine T.F_Shape_cells.ok sc_Shape_cells (fun vs H Q E h => ?_) (fun cdv A outer s H vs Q E hr h => ?_)
  · obtain ⟨p, f, d, w, b, s, rfl, _⟩ := h
    rfl
  · obtain ⟨p, f, d, w, b, s, rfl, ⟨dx, hp⟩, ⟨h1, h2, h3, h4, _⟩, k⟩ := h
    refine ⟨_, (pss_one (ps_ret (pe_callB (cr_sum rfl) (by rfl) T.z_sum (by decide +kernel) (pa_cons (pe_lc (own := [("level", 1)]) (g := gName 1) (tt := tYes) rfl sc_Shape_cells.nd (pi_range1 rfl T.z_range (pa_cons (pe_op op_add (pe_fld (pv 0) rfl) pe_int) pa_nil)) (blkOk_by (N := n_Shape_cells) (sc := defScope s_Shape_cells) (by decide +kernel)) (fun _ _ _ _ _ => (pg_name (i := 1) sc_Shape_cells.nd rfl (Or.inl rfl))) (fun _ _ _ _ _ => pts_nil) (fun _ _ _ _ _ => (pe_call G_leaves_below (hr.mono (by decide)) rfl T.mg_leaves_below T.F_leaves_below.kp T.b_leaves_below .nil pass0 (pa_cons (pe_fldK (K := K) rfl (pv 0) rfl) (pa_cons (pv 1) pa_nil))))) pa_nil)))), ?_⟩
    refine ⟨_, rfl, p, T.C_Shape, dx, _, _, rfl, hp, T.cl_Shape, T.na_Shape_depth, rfl, _, _, rfl, rfl, _, rfl, by omega, by omega, fun D hD => lc_range (n := (d + 1).toNat) (fun i H2 => H2 = upd H D (.lst (((List.range i).map fun j => f ^ j).map V.int))) rfl ?_ ?_⟩
    · rintro i H2 hi rfl
      have np : p ≠ D := ne_of_none hp hD
      refine ⟨rfl, ?_⟩
      refine ⟨_, rfl, p, T.C_Shape, dx, _, _, rfl, by rw [upd_ne np]; exact hp, T.cl_Shape, T.na_Shape_fanout, rfl, _, rfl, f, _, rfl, h1, h2, by omega, by omega, ?_⟩
      refine ⟨_, upd_same, small1000 (by simp; omega), ?_⟩
      rw [upd_upd, List.range_succ, List.map_append, List.map_append, show ((0 : Int) + (i : Nat)).toNat = i by omega]; rfl
    · rintro H2 rfl
      refine ⟨D, _, rfl, SqL.of upd_same, ?_⟩
      have e := k _ (Same.new (o := .lst ((powL f d.toNat).map V.int)) hD)
      rw [← powL_sum] at e
      rw [show (d + 1).toNat = d.toNat + 1 by omega]
      exact e
def spAmple (C : Addr) : Sp := fun vs H Q _ => ∃ (p : Addr) (f d w b s : Int), vs = [.ref p] ∧ ShAt C H p f d w b s ∧ ShOk f d w b s ∧ ∀ H', Same H H' → Q (.int (cN f (d.toNat + 1) * (s + 2))) H'
theorem ok_ample (T : Txt K mg) : FnOk P w K mg base CX0 3 T.f_Shape_ample T.d_Shape_ample p_Shape_ample (spAmple T.C_Shape) := by
  have G_Shape_cells : FnOk P w K mg base CX0 2 T.f_Shape_cells T.d_Shape_cells p_Shape_cells (spCells T.C_Shape) := ok_cells T
  refine T.F_Shape_ample.ok sc_Shape_ample (fun vs H Q E h => ?_) (fun cdv A outer s H vs Q E hr h => ?_)
  · obtain ⟨p, f, d, w, b, s, rfl, _⟩ := h
    rfl
  · obtain ⟨p, f, d, w, b, s, rfl, ⟨dx, hp⟩, ok, k⟩ := h
    refine ⟨_, (pss_one (ps_ret (pe_op op_mul (pe_meth0 (pv 0) T.cl_Shape T.m_Shape_cells G_Shape_cells (hr.mono (by decide)) T.b_Shape_cells .nil pass0) (pe_op op_add (pe_fld (pv 0) rfl) pe_int)))), ?_⟩
    refine ⟨_, rfl, p, dx, _, rfl, hp, rfl, p, f, d, w, b, s, rfl, ⟨dx, hp⟩, ok, fun H1 S1 => ?_⟩
    obtain ⟨_, _, _, _, _, _, _, _, _, s0, s3⟩ := ok
    exact ⟨_, rfl, p, T.C_Shape, dx, _, _, rfl, S1 _ _ hp, T.cl_Shape, T.na_Shape_snapshots, rfl, _, _, rfl, rfl, _, _, rfl, rfl, .inr ⟨by omega, by omega⟩, k H1 S1⟩

end
theorem ints_lay : ∀ ns : List Int, PyData.canLayAll0 (ns.map PyData.int) = true
  | [] => rfl
  | n :: r => by simp [PyData.canLayAll0, PyData.canLay0, ints_lay r]
theorem ints_depth : ∀ ns : List Int, PyData.depthAll (ns.map PyData.int) ≤ 1
  | [] => by simp [PyData.depthAll]
  | n :: r => by
    have h := ints_depth r
    simp [PyData.depthAll, PyData.depth] at h ⊢
    try omega
theorem ints_eqv : ∀ a b : List Int, PyData.eqvAll (a.map PyData.int) (b.map PyData.int) = decide (a = b)
  | [], [] => by simp [PyData.eqvAll]
  | [], _ :: _ => by simp [PyData.eqvAll]
  | _ :: _, [] => by simp [PyData.eqvAll]
  | x :: a, y :: b => by
    have e : (x == y) = decide (x = y) := by by_cases h : x = y <;> simp [h]
    simp [PyData.eqvAll, PyData.eqv, ints_eqv a b, e]
theorem ints_dp {K : PySem.W.Frag} {H : Hp} : ∀ ns : List Int, DpAll K H (ns.map V.int) (ns.map PyData.int)
  | [] => .nil
  | n :: r => .cons (.int n) (ints_dp r)
theorem iteNE {b : Bool} {A B : Prop} (hb : b = true) (h : B) : if (!b) = true then A else B := by
  rw [hb]
  exact iteF h

def spLaw (K : PySem.W.Frag) : Sp := fun vs H Q _ => ∃ (a : Addr) (ns : List Int), vs = [.ref a] ∧ SqL K H a (ns.map V.int) ∧ ns.length ≤ 63 ∧ ∀ H', Q (.bl true) H'
def o1 (f : Int) : Option Str := if ¬ (2 ≤ f ∧ f ≤ 4) then some ("fanout" : Str) else none
def o2 (f d : Int) : Option Str := if ¬ (1 ≤ d ∧ d ≤ 6 ∧ f ^ d.toNat ≤ 64) then some ("depth" : Str) else none
def o3 (w : Int) : Option Str := if ¬ (1 ≤ w ∧ w ≤ 4) then some ("words" : Str) else none
def o4 (d b : Int) : Option Str := if ¬ (d + 1 ≤ b ∧ b ≤ 1000) then some ("blocks" : Str) else none
def o5 (s : Int) : Option Str := if ¬ (0 ≤ s ∧ s ≤ 3) then some ("snapshots" : Str) else none
theorem oor_or (f d w b s : Int) : oor f d w b s = ((((o1 f).or (o2 f d)).or (o3 w)).or (o4 d b)).or (o5 s) := by
  unfold oor o1 o2 o3 o4 o5
  by_cases h1 : 2 ≤ f ∧ f ≤ 4
  · rw [if_neg (not_not_intro h1), if_neg (not_not_intro h1), Option.none_or]
    by_cases h2 : 1 ≤ d ∧ d ≤ 6 ∧ f ^ d.toNat ≤ 64
    · rw [if_neg (not_not_intro h2), if_neg (not_not_intro h2), Option.none_or]
      by_cases h3 : 1 ≤ w ∧ w ≤ 4
      · rw [if_neg (not_not_intro h3), if_neg (not_not_intro h3), Option.none_or]
        by_cases h4 : d + 1 ≤ b ∧ b ≤ 1000
        · rw [if_neg (not_not_intro h4), if_neg (not_not_intro h4), Option.none_or]
        · rw [if_pos h4, if_pos h4]; rfl
      · rw [if_pos h3, if_pos h3]; rfl
    · rw [if_pos h2, if_pos h2]; rfl
  · rw [if_pos h1, if_pos h1]; rfl
theorem oor_str {f d w b s : Int} {z : Str} (h : oor f d w b s = some z) : PyData.strOk z = true := by
  unfold oor at h
  split at h
  · cases h; decide +kernel
  split at h
  · cases h; decide +kernel
  split at h
  · cases h; decide +kernel
  split at h
  · cases h; decide +kernel
  split at h
  · cases h; decide +kernel
  · cases h
theorem o_app {bs : List Str} {r : Option Str} {x : Str} (h : bs.head? = r) : (bs ++ [x]).head? = r.or (some x) := by
  rw [List.head?_append, h]; rfl
theorem o_none {bs : List Str} {r : Option Str} (h : bs.head? = r) : bs.head? = r.or none := by rw [h, Option.or_none]
theorem oor_ok {f d w b s : Int} (h : oor f d w b s = none) : ShOk f d w b s := by
  unfold oor at h
  split at h
  · cases h
  rename_i h1
  split at h
  · cases h
  rename_i h2
  split at h
  · cases h
  rename_i h3
  split at h
  · cases h
  rename_i h4
  split at h
  · cases h
  rename_i h5
  have h1 := Decidable.not_not.mp h1
  have h2 := Decidable.not_not.mp h2
  have h3 := Decidable.not_not.mp h3
  have h4 := Decidable.not_not.mp h4
  have h5 := Decidable.not_not.mp h5
  exact ⟨h1.1, h1.2, h2.1, h2.2.1, h2.2.2, h3.1, h3.2, h4.1, h4.2, h5.1, h5.2⟩
/-- in the middle of the law: v at lv, bad at lb -/
def Mid (m : Nat) (lv lb : Addr) (l0 a : Addr) (f d w b s : Int) (r : Option Str) (σ : St) (H : Hp) : Prop := ∃ bs : List Str, σ = [some (.ref l0), some (.ref a), some (.ref lv), some (.ref lb), none, none] ∧
  lv ≠ lb ∧ H lv = some (.lst ([f, d, w, b, s].map V.int)) ∧ H lb = some (.lst (bs.map V.str)) ∧ bs.length ≤ m ∧ bs.head? = r
theorem Mid.app {m : Nat} {lv lb l0 a : Addr} {f d w b s : Int} {r : Option Str} {H : Hp} {bs : List Str} {x : Str} (n : lv ≠ lb) (h1 : H lv = some (.lst ([f, d, w, b, s].map V.int))) (h2 : bs.length ≤ m) (h3 : bs.head? = r) :
    Mid (m + 1) lv lb l0 a f d w b s (r.or (some x)) [some (.ref l0), some (.ref a), some (.ref lv), some (.ref lb), none, none] (upd H lb (.lst (bs.map V.str ++ [.str x]))) :=
  ⟨bs ++ [x], rfl, n, by rw [upd_ne n]; exact h1, by rw [upd_same, List.map_append]; rfl, by rw [List.length_append]; exact Nat.succ_le_succ h2, o_app h3⟩
theorem Mid.keep {m : Nat} {lv lb l0 a : Addr} {f d w b s : Int} {r : Option Str} {H : Hp} {bs : List Str} (n : lv ≠ lb) (h1 : H lv = some (.lst ([f, d, w, b, s].map V.int))) (hb : H lb = some (.lst (bs.map V.str))) (h2 : bs.length ≤ m) (h3 : bs.head? = r) :
    Mid (m + 1) lv lb l0 a f d w b s (r.or none) [some (.ref l0), some (.ref a), some (.ref lv), some (.ref lb), none, none] H :=
  ⟨bs, rfl, n, h1, hb, Nat.le_succ_of_le h2, o_none h3⟩
abbrev XL (P : Program) (w : World) (K : PySem.W.Frag) (mg : Str → Option Value) (base : Heap) (fL : Addr) (cdv : Value) (A : Around) (outer : List Env) (s : Shared) (H : Hp) (E : XK) : Cx :=
  (cxOf CX0 P w K mg base n_law "law" (defScope s_law) fL cdv A outer s H E).nox
abbrev DL (Q : VK) : Ends := { nx := fun _ H' => Q .non H', rt := Q }
section
variable {P : Program} {w : World} {K : PySem.W.Frag} {mg : Str → Option Value} {base : Heap} {cdv : Value} {A : Around} {outer : List Env} {s0 : Shared} {H0 : Hp} {E : XK} {Q : VK}
/-- made = .. -/
theorem law_rest (T : Txt K mg) (hP : FileOk P T.file_ShapeError) (hr : Room 6 (A.deeper (PyProof.Rows.envOfC "law" (defScope s_law) s0.heap.objs.size T.f_law cdv))) (k : ∀ H', Q (.bl true) H') :
    ∃ t, PSs (XL P w K mg base T.f_law cdv A outer s0 H0 E) ((defBody s_law).drop 9) t ∧ ∀ (lv lb l0 a : Addr) (f d w1 b s : Int) σ H, Mid 5 lv lb l0 a f d w1 b s (oor f d w1 b s) σ H → t (DL Q) σ H := by
  have G__law_made : FnOk P w K mg base CX0 6 T.f__law_made T.d__law_made p__law_made (spMade K T.C_Shape) := ok_made T hP
  have G__law_levels : FnOk P w K mg base CX0 1 T.f__law_levels T.d__law_levels p__law_levels spLev := ok_lev T
  have G_Shape_leaves : FnOk P w K mg base CX0 2 T.f_Shape_leaves T.d_Shape_leaves p_Shape_leaves (spLeaves T.C_Shape) := ok_leaves T
  have G_Shape_cells : FnOk P w K mg base CX0 2 T.f_Shape_cells T.d_Shape_cells p_Shape_cells (spCells T.C_Shape) := ok_cells T
  have G_Shape_ample : FnOk P w K mg base CX0 3 T.f_Shape_ample T.d_Shape_ample p_Shape_ample (spAmple T.C_Shape) := ok_ample T
  have G_Shape___init__ : FnOk P w K mg base (L2.CX P w) 4 T.f_Shape___init__ T.d_Shape___init__ p_Shape___init__ (spShapeX T.C_Shape T.C_ShapeError) := ok_ShapeX T hP
  obtain ⟨mv4, kb4⟩ := T.kb_Shape4
  refine ⟨_, (pss_cons (ps_set (i := 4) sc_law.nd rfl (Or.inl rfl) (pe_call G__law_made (hr.mono (by decide)) rfl T.mg__law_made T.F__law_made.kp T.b__law_made .nil pass0 (pa_cons (pv 2) pa_nil)))
      (pss_cons (ps_if (pt_cmpR op_gt (pe_callB call_len_seq (by rfl) T.z_len PySem.boot_len (pa_cons (pv 3) pa_nil)) pe_int (nomark _)) (pss_one (ps_ret (pe_cmpR (op_eqD (hr.units)) (pv 4) (pe_tup (pa_cons pe_str (pa_cons (pe_ix ix_list (pv 3) pe_int (fun _ _ => rfl)) pa_nil))) (nomark _)))) pss_nil)
      (pss_cons (ps_if (pt_val (pe_callB call_isi (by rfl) T.z_isinstance (by decide +kernel) (pa_cons (pv 4) (pa_cons (pe_bltn (v := V.ty "tuple") (by rfl) T.z_tuple (by decide +kernel) rfl) pa_nil)))) (pss_one (ps_ret pe_bl)) pss_nil)
      (pss_cons (ps_set (i := 5) sc_law.nd rfl (Or.inl rfl) (pe_call G__law_levels (hr.mono (by decide)) rfl T.mg__law_levels T.F__law_levels.kp T.b__law_levels .nil pass0 (pa_cons (pe_ix ix_list (pv 2) pe_int (fun _ _ => rfl)) (pa_cons (pe_ix ix_list (pv 2) pe_int (fun _ _ => rfl)) pa_nil))))
      (pss_cons (ps_if (pt_cmpR (op_neD (hr.units)) (pe_lst (pa_cons (pe_fld (pv 4) rfl) (pa_cons (pe_fld (pv 4) rfl) (pa_cons (pe_fld (pv 4) rfl) (pa_cons (pe_fld (pv 4) rfl) (pa_cons (pe_fld (pv 4) rfl) pa_nil)))))) (pv 2) (nomark _)) (pss_one (ps_ret pe_bl)) pss_nil)
      (pss_cons (ps_if (PW.pt (pw_or (pt_cmpR op_ne (pe_meth0 (pv 4) T.cl_Shape T.m_Shape_leaves G_Shape_leaves (hr.mono (by decide)) T.b_Shape_leaves .nil pass0) (pe_ix ix_list (pv 5) (pe_un un_neg pe_int) (fun _ _ => rfl)) (nomark _)) (pw_or (pt_cmpR op_ne (pe_meth0 (pv 4) T.cl_Shape T.m_Shape_cells G_Shape_cells (hr.mono (by decide)) T.b_Shape_cells .nil pass0) (pe_callB (cr_sum rfl) (by rfl) T.z_sum (by decide +kernel) (pa_cons (pv 5) pa_nil)) (nomark _)) (pw_or1 (pt_cmpR op_ne (pe_meth0 (pv 4) T.cl_Shape T.m_Shape_ample G_Shape_ample (hr.mono (by decide)) T.b_Shape_ample .nil pass0) (pe_op op_mul (pe_op op_add (pe_ix ix_list (pv 2) pe_int (fun _ _ => rfl)) pe_int) (pe_callB (cr_sum rfl) (by rfl) T.z_sum (by decide +kernel) (pa_cons (pv 5) pa_nil))) (nomark _)))))) (pss_one (ps_ret pe_bl)) pss_nil)
      (pss_one (ps_ret (pe_cmpR op_eq (pe_fld (pe_makeKS (E := fun _ _ _ _ => False) T.M_Shape G_Shape___init__ (hr.mono (by decide)) rfl T.mg_Shape kb4 passF (pk_cons pe_int (pk_cons pe_int (pk_cons pe_int (pk_cons pe_int pk_nil))))) rfl) pe_int (nomark _)))))))))), ?_⟩
  rintro lv lb l0 a f d w1 b s σ H ⟨bs, rfl, nvb, hv, hb, hbl, hbr⟩
  refine ⟨_, rfl, lv, f, d, w1, b, s, rfl, SqL.of hv, fun e p H1 hp S1 hSh => ?_, fun z e t H1 ht S1 hT => ?_⟩
  · rw [e] at hbr
    have ok := oor_ok e
    have hb0 : bs = [] := by
      cases bs with
      | nil => rfl
      | cons x r => cases hbr
    subst hb0
    refine ⟨_, rfl, lb, _, rfl, .inl (SqL.of (S1 _ _ hb)), _, _, rfl, rfl, _, rfl, iteF ?_⟩
    obtain ⟨dx, hpd⟩ := id hSh
    refine ⟨_, rfl, _, _, _, _, false, rfl, .ty "tuple", .base (.ins hpd T.cl_Shape T.gc_Shape T.S_ShapeError.exc.hn T.S_ShapeError.exc.ht T.mo_Shape), T.kt_Shape, _, rfl, iteF ?_⟩
    have hv1 := S1 _ _ hv
    -- rows = _law_levels(v[0], v[1])
    obtain ⟨f2, f4, d1, d6, _, _, _, _, _, s0', s3⟩ := id ok
    refine ⟨_, rfl, lv, _, _, _, rfl, rfl, SqL.of hv1, atI_nat (j := 0) rfl, _, rfl, lv, _, _, _, rfl, rfl, SqL.of hv1, atI_nat (j := 1) rfl, f, d, rfl, by omega, by omega, by omega, by omega, fun t H2 ht S2 hT => ?_⟩
    have S12 := S1.trans S2
    have hp2 := S2 _ _ hpd
    refine ⟨_, rfl, p, T.C_Shape, dx, _, _, rfl, hp2, T.cl_Shape, T.na_Shape_fanout, rfl, _, rfl, p, T.C_Shape, dx, _, _, rfl, hp2, T.cl_Shape, T.na_Shape_depth, rfl, _, rfl, p, T.C_Shape, dx, _, _, rfl, hp2, T.cl_Shape, T.na_Shape_words, rfl,
      _, rfl, p, T.C_Shape, dx, _, _, rfl, hp2, T.cl_Shape, T.na_Shape_blocks, rfl, _, rfl, p, T.C_Shape, dx, _, _, rfl, hp2, T.cl_Shape, T.na_Shape_snapshots, rfl, (by show 5 ≤ sizeLine; decide), fun q hq => ?_⟩
    have Sq : Same H2 (upd H2 q (.lst ([f, d, w1, b, s].map V.int))) := Same.new hq
    have S3 := S12.trans Sq
    have e1 : PyData.eqv (.list ([f, d, w1, b, s].map PyData.int)) (.list ([f, d, w1, b, s].map PyData.int)) = true := by
      show PyData.eqvAll _ _ = true
      rw [ints_eqv]
      exact decide_eq_true rfl
    have sh : SeqAt.shaped (.list ([f, d, w1, b, s].map PyData.int)) = true := by simp [SeqAt.shaped, PyData.canLay0, PyData.canLayAll0, PyData.depth, PyData.depthAll]
    refine ⟨_, rfl, .list ([f, d, w1, b, s].map PyData.int), .list ([f, d, w1, b, s].map PyData.int), .lst (SqL.of upd_same) (ints_dp [f, d, w1, b, s]), .lst (SqL.of (S3 _ _ hv)) (ints_dp [f, d, w1, b, s]), sh, sh, _, rfl, iteNE e1 ?_⟩
    -- made.leaves() != rows[-1] ..
    have hp3 := Sq _ _ hp2
    have hT3 := Sq _ _ hT
    have hlast : (powL f d.toNat).map V.int = ((List.range d.toNat).map fun i => f ^ i).map V.int ++ [V.int (f ^ d.toNat)] := by
      unfold powL
      rw [List.range_succ, List.map_append, List.map_append]; rfl
    have hT4 := hT3
    rw [hlast] at hT4
    refine ⟨_, rfl, p, dx, _, rfl, hp3, rfl, p, f, d, w1, b, s, rfl, ⟨dx, hp3⟩, ok, _, rfl, _, rfl, t, _, _, _, rfl, rfl, SqL.of hT4, atI_last _ _, rfl, _, rfl, iteNS rfl ?_⟩
    -- made.cells() != sum(rows)
    refine ⟨_, rfl, p, dx, _, rfl, hp3, rfl, p, f, d, w1, b, s, rfl, ⟨dx, hp3⟩, ok, fun H4 S4 => ?_⟩
    have S34 := S3.trans S4
    refine ⟨_, rfl, t, _, rfl, SqL.of (S4 _ _ hT3), rfl, _, rfl, iteNS (congrArg V.int (powL_sum f d.toNat).symm) ?_⟩
    refine ⟨_, rfl, p, dx, _, rfl, S4 _ _ hp3, rfl, p, f, d, w1, b, s, rfl, ⟨dx, S4 _ _ hp3⟩, ok, fun H5 S5 => ?_⟩
    have hT5 := S5 _ _ (S4 _ _ hT3)
    have S35 := S34.trans S5
    refine ⟨_, rfl, lv, _, _, _, rfl, rfl, SqL.of (S35 _ _ hv), atI_nat (j := 4) rfl, _, _, rfl, rfl, _, rfl, t, _, rfl, SqL.of hT5, _, _, rfl, rfl, .inl ⟨by omega, by omega⟩, rfl, _, rfl, iteNS ?_ ?_⟩
    · rw [powL_sum, Int.mul_comm]
    refine ⟨rfl, fun p2 dx2 hp2' hdx2 nex => ⟨p2, dx2, 2, 1, 1, 2, 0, rfl, upd_same, fun _ => ⟨rfl, ?_⟩, fun z ez => ?_⟩⟩
    · refine ⟨p2, T.C_Shape, dx2, _, _, rfl, upd_same, T.cl_Shape, T.na_Shape_snapshots, rfl, rfl, k _⟩
    · have ez' : oor 2 1 1 2 0 = none := by decide
      rw [ez'] at ez
      cases ez
  · rw [e] at hbr
    have hb1 := S1 _ _ hb
    have h0 : (bs.map V.str)[0]? = some (.str z) := by
      cases bs with
      | nil => cases hbr
      | cons x r => cases hbr; rfl
    have hl : (0 : Int) < (((bs.map V.str).length : Nat) : Int) := by
      cases bs with
      | nil => cases hbr
      | cons x r => simp only [List.map_cons, List.length_cons]; omega
    refine ⟨_, rfl, lb, _, rfl, .inl (SqL.of hb1), _, _, rfl, rfl, _, rfl, iteDT hl ?_⟩
    refine ⟨_, rfl, _, rfl, lb, _, _, _, rfl, rfl, SqL.of hb1, atI_nat h0, (by show 2 ≤ sizeLine; decide), fun q hq => ?_⟩
    have hT2 := (Same.new (o := .tup [.str "error", .str z]) hq) _ _ hT
    have ed : PyData.eqv (.tuple [.str "error", .str z]) (.tuple [.str "error", .str z]) = true := by simp [PyData.eqv, PyData.eqvAll]
    have sh : SeqAt.shaped (.tuple [.str "error", .str z]) = true := by
      have s1 : PyData.strOk "error" = true := by decide +kernel
      have s2 : PyData.strOk z = true := oor_str e
      simp [SeqAt.shaped, PyData.canLay0, PyData.canLayAll0, PyData.depth, PyData.depthAll, s1, s2]
    refine ⟨.tuple [.str "error", .str z], .tuple [.str "error", .str z], .tup (SqT.of hT2) (.cons (.str _) (.cons (.str _) .nil)), .tup (SqT.of upd_same) (.cons (.str _) (.cons (.str _) .nil)), sh, sh, ?_⟩
    rw [ed]
    exact k _
end

theorem nd {c : Prop} [Decidable c] (h : ¬ decide c = true) : ¬ c := fun z => h (decide_eq_true z)
section
variable {P : Program} {w : World} {K : PySem.W.Frag} {mg : Str → Option Value} {base : Heap} {cdv : Value} {A : Around} {outer : List Env} {s0 : Shared} {H0 : Hp} {E : XK} {Q : VK}
theorem law_if8 (T : Txt K mg) (hP : FileOk P T.file_ShapeError) (hr : Room 6 (A.deeper (PyProof.Rows.envOfC "law" (defScope s_law) s0.heap.objs.size T.f_law cdv))) (k : ∀ H', Q (.bl true) H') :
    ∃ t, PSs (XL P w K mg base T.f_law cdv A outer s0 H0 E) ((defBody s_law).drop 8) t ∧ ∀ (lv lb l0 a : Addr) (f d w1 b s : Int) σ H, Mid 4 lv lb l0 a f d w1 b s ((((o1 f).or (o2 f d)).or (o3 w1)).or (o4 d b)) σ H → t (DL Q) σ H := by
  obtain ⟨t9, h9, k9⟩ := law_rest (E := E) (H0 := H0) (s0 := s0) (outer := outer) (base := base) (P := P) (w := w) T hP hr k
  refine ⟨_, (pss_cons (ps_if (PW.pt (pw_or (pt_cmpR op_lt (pe_ix ix_list (pv 2) pe_int (fun _ _ => rfl)) pe_int (nomark _)) (pw_or1 (pt_cmpR op_gt (pe_ix ix_list (pv 2) pe_int (fun _ _ => rfl)) pe_int (nomark _))))) (pss_one (ps_expr (pe_bm PySem.F.plainAttrs_list PySem.F.slot_list_append PySem.F.type_list_append mt_append (pv 3) (pa_cons pe_str pa_nil)))) pss_nil)
      h9), ?_⟩
  rintro lv lb l0 a f d w1 b s σ H ⟨bs, rfl, n, hv, hb, hl, hh⟩
  have k9 := k9 lv lb l0 a f d w1 b s
  rw [oor_or] at k9
  refine ⟨_, rfl, lv, _, _, _, rfl, rfl, SqL.of hv, atI_nat (j := 4) rfl, _, _, rfl, rfl, _, rfl, ite2 (fun c1 => ?_) (fun c1 => ?_)⟩
  · have c1 := of_decide_eq_true c1
    have ho : o5 s = some ("snapshots" : Str) := by unfold o5; rw [if_pos (by omega)]
    refine ⟨_, rfl, .inl ⟨rfl, _, SqL.of hb⟩, lb, _, _, rfl, rfl, hb, small1000 (by rw [List.length_map]; omega), ?_⟩
    refine k9 _ _ ?_
    rw [ho]
    exact Mid.app n hv hl hh
  · refine ⟨_, rfl, lv, _, _, _, rfl, rfl, SqL.of hv, atI_nat (j := 4) rfl, _, _, rfl, rfl, _, rfl, ite2 (fun c2 => ?_) (fun c2 => ?_)⟩
    · have c2 := of_decide_eq_true c2
      have ho : o5 s = some ("snapshots" : Str) := by unfold o5; rw [if_pos (by omega)]
      refine ⟨_, rfl, .inl ⟨rfl, _, SqL.of hb⟩, lb, _, _, rfl, rfl, hb, small1000 (by rw [List.length_map]; omega), ?_⟩
      refine k9 _ _ ?_
      rw [ho]
      exact Mid.app n hv hl hh
    · have c1 := nd c1
      have c2 := nd c2
      have ho : o5 s = none := by unfold o5; rw [if_neg (not_not_intro (by omega))]
      refine k9 _ _ ?_
      rw [ho]
      exact Mid.keep n hv hb hl hh
theorem law_if7 (T : Txt K mg) (hP : FileOk P T.file_ShapeError) (hr : Room 6 (A.deeper (PyProof.Rows.envOfC "law" (defScope s_law) s0.heap.objs.size T.f_law cdv))) (k : ∀ H', Q (.bl true) H') :
    ∃ t, PSs (XL P w K mg base T.f_law cdv A outer s0 H0 E) ((defBody s_law).drop 7) t ∧ ∀ (lv lb l0 a : Addr) (f d w1 b s : Int) σ H, Mid 3 lv lb l0 a f d w1 b s (((o1 f).or (o2 f d)).or (o3 w1)) σ H → t (DL Q) σ H := by
  obtain ⟨t8, h8, k8⟩ := law_if8 (E := E) (H0 := H0) (s0 := s0) (outer := outer) (base := base) (P := P) (w := w) T hP hr k
  refine ⟨_, (pss_cons (ps_if (PW.pt (pw_or (pt_cmpR op_lt (pe_ix ix_list (pv 2) pe_int (fun _ _ => rfl)) (pe_op op_add (pe_ix ix_list (pv 2) pe_int (fun _ _ => rfl)) pe_int) (nomark _)) (pw_or1 (pt_cmpR op_gt (pe_ix ix_list (pv 2) pe_int (fun _ _ => rfl)) pe_int (nomark _))))) (pss_one (ps_expr (pe_bm PySem.F.plainAttrs_list PySem.F.slot_list_append PySem.F.type_list_append mt_append (pv 3) (pa_cons pe_str pa_nil)))) pss_nil)
      h8), ?_⟩
  rintro lv lb l0 a f d w1 b s σ H ⟨bs, rfl, n, hv, hb, hl, hh⟩
  have k8 := k8 lv lb l0 a f d w1 b s
  refine ⟨_, rfl, lv, _, _, _, rfl, rfl, SqL.of hv, atI_nat (j := 3) rfl, _, rfl, lv, _, _, _, rfl, rfl, SqL.of hv, atI_nat (j := 1) rfl, _, _, rfl, rfl, _, _, rfl, rfl, _, rfl, ite2 (fun c1 => ?_) (fun c1 => ?_)⟩
  · have c1 := of_decide_eq_true c1
    have ho : o4 d b = some ("blocks" : Str) := by unfold o4; rw [if_pos (by omega)]
    refine ⟨_, rfl, .inl ⟨rfl, _, SqL.of hb⟩, lb, _, _, rfl, rfl, hb, small1000 (by rw [List.length_map]; omega), ?_⟩
    refine k8 _ _ ?_
    rw [ho]
    exact Mid.app n hv hl hh
  · refine ⟨_, rfl, lv, _, _, _, rfl, rfl, SqL.of hv, atI_nat (j := 3) rfl, _, _, rfl, rfl, _, rfl, ite2 (fun c2 => ?_) (fun c2 => ?_)⟩
    · have c2 := of_decide_eq_true c2
      have ho : o4 d b = some ("blocks" : Str) := by unfold o4; rw [if_pos (by omega)]
      refine ⟨_, rfl, .inl ⟨rfl, _, SqL.of hb⟩, lb, _, _, rfl, rfl, hb, small1000 (by rw [List.length_map]; omega), ?_⟩
      refine k8 _ _ ?_
      rw [ho]
      exact Mid.app n hv hl hh
    · have c1 := nd c1
      have c2 := nd c2
      have ho : o4 d b = none := by unfold o4; rw [if_neg (not_not_intro (by omega))]
      refine k8 _ _ ?_
      rw [ho]
      exact Mid.keep n hv hb hl hh
theorem law_if6 (T : Txt K mg) (hP : FileOk P T.file_ShapeError) (hr : Room 6 (A.deeper (PyProof.Rows.envOfC "law" (defScope s_law) s0.heap.objs.size T.f_law cdv))) (k : ∀ H', Q (.bl true) H') :
    ∃ t, PSs (XL P w K mg base T.f_law cdv A outer s0 H0 E) ((defBody s_law).drop 6) t ∧ ∀ (lv lb l0 a : Addr) (f d w1 b s : Int) σ H, Mid 2 lv lb l0 a f d w1 b s ((o1 f).or (o2 f d)) σ H → t (DL Q) σ H := by
  obtain ⟨t7, h7, k7⟩ := law_if7 (E := E) (H0 := H0) (s0 := s0) (outer := outer) (base := base) (P := P) (w := w) T hP hr k
  refine ⟨_, (pss_cons (ps_if (PW.pt (pw_or (pt_cmpR op_lt (pe_ix ix_list (pv 2) pe_int (fun _ _ => rfl)) pe_int (nomark _)) (pw_or1 (pt_cmpR op_gt (pe_ix ix_list (pv 2) pe_int (fun _ _ => rfl)) pe_int (nomark _))))) (pss_one (ps_expr (pe_bm PySem.F.plainAttrs_list PySem.F.slot_list_append PySem.F.type_list_append mt_append (pv 3) (pa_cons pe_str pa_nil)))) pss_nil)
      h7), ?_⟩
  rintro lv lb l0 a f d w1 b s σ H ⟨bs, rfl, n, hv, hb, hl, hh⟩
  have k7 := k7 lv lb l0 a f d w1 b s
  refine ⟨_, rfl, lv, _, _, _, rfl, rfl, SqL.of hv, atI_nat (j := 2) rfl, _, _, rfl, rfl, _, rfl, ite2 (fun c1 => ?_) (fun c1 => ?_)⟩
  · have c1 := of_decide_eq_true c1
    have ho : o3 w1 = some ("words" : Str) := by unfold o3; rw [if_pos (by omega)]
    refine ⟨_, rfl, .inl ⟨rfl, _, SqL.of hb⟩, lb, _, _, rfl, rfl, hb, small1000 (by rw [List.length_map]; omega), ?_⟩
    refine k7 _ _ ?_
    rw [ho]
    exact Mid.app n hv hl hh
  · refine ⟨_, rfl, lv, _, _, _, rfl, rfl, SqL.of hv, atI_nat (j := 2) rfl, _, _, rfl, rfl, _, rfl, ite2 (fun c2 => ?_) (fun c2 => ?_)⟩
    · have c2 := of_decide_eq_true c2
      have ho : o3 w1 = some ("words" : Str) := by unfold o3; rw [if_pos (by omega)]
      refine ⟨_, rfl, .inl ⟨rfl, _, SqL.of hb⟩, lb, _, _, rfl, rfl, hb, small1000 (by rw [List.length_map]; omega), ?_⟩
      refine k7 _ _ ?_
      rw [ho]
      exact Mid.app n hv hl hh
    · have c1 := nd c1
      have c2 := nd c2
      have ho : o3 w1 = none := by unfold o3; rw [if_neg (not_not_intro (by omega))]
      refine k7 _ _ ?_
      rw [ho]
      exact Mid.keep n hv hb hl hh
theorem law_if5 (T : Txt K mg) (hP : FileOk P T.file_ShapeError) (hr : Room 6 (A.deeper (PyProof.Rows.envOfC "law" (defScope s_law) s0.heap.objs.size T.f_law cdv))) (k : ∀ H', Q (.bl true) H') :
    ∃ t, PSs (XL P w K mg base T.f_law cdv A outer s0 H0 E) ((defBody s_law).drop 5) t ∧ ∀ (lv lb l0 a : Addr) (f d w1 b s : Int) (_ : 1 ≤ f ∧ f ≤ 5) σ H, Mid 1 lv lb l0 a f d w1 b s (o1 f) σ H → t (DL Q) σ H := by
  have G__law_levels : FnOk P w K mg base CX0 1 T.f__law_levels T.d__law_levels p__law_levels spLev := ok_lev T
  obtain ⟨t6, h6, k6⟩ := law_if6 (E := E) (H0 := H0) (s0 := s0) (outer := outer) (base := base) (P := P) (w := w) T hP hr k
  refine ⟨_, (pss_cons (ps_if (PW.pt (pw_or (pt_cmpR op_lt (pe_ix ix_list (pv 2) pe_int (fun _ _ => rfl)) pe_int (nomark _)) (pw_or (pt_cmpR op_gt (pe_ix ix_list (pv 2) pe_int (fun _ _ => rfl)) pe_int (nomark _)) (pw_or1 (pt_cmpR op_gt (pe_ix ix_list (pe_call G__law_levels (hr.mono (by decide)) rfl T.mg__law_levels T.F__law_levels.kp T.b__law_levels .nil pass0 (pa_cons (pe_ix ix_list (pv 2) pe_int (fun _ _ => rfl)) (pa_cons (pe_ix ix_list (pv 2) pe_int (fun _ _ => rfl)) pa_nil))) (pe_un un_neg pe_int) (fun _ _ => rfl)) pe_int (nomark _)))))) (pss_one (ps_expr (pe_bm PySem.F.plainAttrs_list PySem.F.slot_list_append PySem.F.type_list_append mt_append (pv 3) (pa_cons pe_str pa_nil)))) pss_nil)
      h6), ?_⟩
  rintro lv lb l0 a f d w1 b s hf σ H ⟨bs, rfl, n, hv, hb, hl, hh⟩
  have k6 := k6 lv lb l0 a f d w1 b s
  refine ⟨_, rfl, lv, _, _, _, rfl, rfl, SqL.of hv, atI_nat (j := 1) rfl, _, _, rfl, rfl, _, rfl, ite2 (fun c1 => ?_) (fun c1 => ?_)⟩
  · have c1 := of_decide_eq_true c1
    have ho : o2 f d = some ("depth" : Str) := by unfold o2; rw [if_pos (by omega)]
    refine ⟨_, rfl, .inl ⟨rfl, _, SqL.of hb⟩, lb, _, _, rfl, rfl, hb, small1000 (by rw [List.length_map]; omega), ?_⟩
    refine k6 _ _ ?_
    rw [ho]
    exact Mid.app n hv hl hh
  · refine ⟨_, rfl, lv, _, _, _, rfl, rfl, SqL.of hv, atI_nat (j := 1) rfl, _, _, rfl, rfl, _, rfl, ite2 (fun c2 => ?_) (fun c2 => ?_)⟩
    · have c2 := of_decide_eq_true c2
      have ho : o2 f d = some ("depth" : Str) := by unfold o2; rw [if_pos (by omega)]
      refine ⟨_, rfl, .inl ⟨rfl, _, SqL.of hb⟩, lb, _, _, rfl, rfl, hb, small1000 (by rw [List.length_map]; omega), ?_⟩
      refine k6 _ _ ?_
      rw [ho]
      exact Mid.app n hv hl hh
    · have c1 := nd c1
      have c2 := nd c2
      refine ⟨_, rfl, lv, _, _, _, rfl, rfl, SqL.of hv, atI_nat (j := 0) rfl, _, rfl, lv, _, _, _, rfl, rfl, SqL.of hv, atI_nat (j := 1) rfl, f, d, rfl, hf.1, hf.2, by omega, by omega, fun t H1 ht S1 hT => ?_⟩
      have hlast : (powL f d.toNat).map V.int = ((List.range d.toNat).map fun i => f ^ i).map V.int ++ [V.int (f ^ d.toNat)] := by
        unfold powL
        rw [List.range_succ, List.map_append, List.map_append]; rfl
      rw [hlast] at hT
      have hv := S1 _ _ hv
      have hb := S1 _ _ hb
      refine ⟨_, rfl, t, _, _, _, rfl, rfl, SqL.of hT, atI_last _ _, _, _, rfl, rfl, _, rfl, ite2 (fun c3 => ?_) (fun c3 => ?_)⟩
      · have c3 := of_decide_eq_true c3
        have ho : o2 f d = some ("depth" : Str) := by unfold o2; rw [if_pos (by omega)]
        refine ⟨_, rfl, .inl ⟨rfl, _, SqL.of hb⟩, lb, _, _, rfl, rfl, hb, small1000 (by rw [List.length_map]; omega), ?_⟩
        refine k6 _ _ ?_
        rw [ho]
        exact Mid.app n hv hl hh
      · have c3 := nd c3
        have ho : o2 f d = none := by unfold o2; rw [if_neg (not_not_intro (by omega))]
        refine k6 _ _ ?_
        rw [ho]
        exact Mid.keep n hv hb hl hh
theorem law_if4 (T : Txt K mg) (hP : FileOk P T.file_ShapeError) (hr : Room 6 (A.deeper (PyProof.Rows.envOfC "law" (defScope s_law) s0.heap.objs.size T.f_law cdv))) (k : ∀ H', Q (.bl true) H') :
    ∃ t, PSs (XL P w K mg base T.f_law cdv A outer s0 H0 E) ((defBody s_law).drop 4) t ∧ ∀ (lv lb l0 a : Addr) (f d w1 b s : Int) (_ : 1 ≤ f ∧ f ≤ 5) σ H, Mid 0 lv lb l0 a f d w1 b s none σ H → t (DL Q) σ H := by
  obtain ⟨t5, h5, k5⟩ := law_if5 (E := E) (H0 := H0) (s0 := s0) (outer := outer) (base := base) (P := P) (w := w) T hP hr k
  refine ⟨_, (pss_cons (ps_if (PW.pt (pw_or (pt_cmpR op_lt (pe_ix ix_list (pv 2) pe_int (fun _ _ => rfl)) pe_int (nomark _)) (pw_or1 (pt_cmpR op_gt (pe_ix ix_list (pv 2) pe_int (fun _ _ => rfl)) pe_int (nomark _))))) (pss_one (ps_expr (pe_bm PySem.F.plainAttrs_list PySem.F.slot_list_append PySem.F.type_list_append mt_append (pv 3) (pa_cons pe_str pa_nil)))) pss_nil)
      h5), ?_⟩
  rintro lv lb l0 a f d w1 b s hf σ H ⟨bs, rfl, n, hv, hb, hl, hh⟩
  have k5 := k5 lv lb l0 a f d w1 b s hf
  refine ⟨_, rfl, lv, _, _, _, rfl, rfl, SqL.of hv, atI_nat (j := 0) rfl, _, _, rfl, rfl, _, rfl, ite2 (fun c1 => ?_) (fun c1 => ?_)⟩
  · have c1 := of_decide_eq_true c1
    have ho : o1 f = some ("fanout" : Str) := by unfold o1; rw [if_pos (by omega)]
    refine ⟨_, rfl, .inl ⟨rfl, _, SqL.of hb⟩, lb, _, _, rfl, rfl, hb, small1000 (by rw [List.length_map]; omega), ?_⟩
    refine k5 _ _ ?_
    rw [ho]
    exact Mid.app n hv hl hh
  · refine ⟨_, rfl, lv, _, _, _, rfl, rfl, SqL.of hv, atI_nat (j := 0) rfl, _, _, rfl, rfl, _, rfl, ite2 (fun c2 => ?_) (fun c2 => ?_)⟩
    · have c2 := of_decide_eq_true c2
      have ho : o1 f = some ("fanout" : Str) := by unfold o1; rw [if_pos (by omega)]
      refine ⟨_, rfl, .inl ⟨rfl, _, SqL.of hb⟩, lb, _, _, rfl, rfl, hb, small1000 (by rw [List.length_map]; omega), ?_⟩
      refine k5 _ _ ?_
      rw [ho]
      exact Mid.app n hv hl hh
    · have c1 := nd c1
      have c2 := nd c2
      have ho : o1 f = none := by unfold o1; rw [if_neg (not_not_intro (by omega))]
      refine k5 _ _ ?_
      rw [ho]
      exact Mid.keep n hv hb hl hh
end

theorem ok_law {P : Program} {w : World} {K : PySem.W.Frag} {mg : Str → Option Value} {base : Heap} (T : Txt K mg) (hP : FileOk P T.file_ShapeError) : FnOk P w K mg base CX0 7 T.f_law T.d_law p_law (spLaw K) := by
  have G__law_state : FnOk P w K mg base CX0 1 T.f__law_state T.d__law_state p__law_state (spState K) := ok_state T
  have G__law_draw : FnOk P w K mg base CX0 1 T.f__law_draw T.d__law_draw p__law_draw spDraw := ok_draw T
  have G__law_near : FnOk P w K mg base CX0 2 T.f__law_near T.d__law_near p__law_near spNear := ok_near T
  refine T.F_law.ok sc_law (fun vs H Q E h => ?_) (fun cdv A outer s0 H vs Q E hr h => ?_)
  · obtain ⟨a, ns, rfl, _⟩ := h
    rfl
  · obtain ⟨l0, ns, rfl, hS, hlen, k⟩ := h
    obtain ⟨t4, h4, k4⟩ := law_if4 (E := E) (H0 := H) (s0 := s0) (outer := outer) (base := base) (P := P) (w := w) T hP hr k
    refine ⟨_, (pss_cons (ps_set (i := 1) sc_law.nd rfl (Or.inl rfl) (pe_call G__law_state (hr.mono (by decide)) rfl T.mg__law_state T.F__law_state.kp T.b__law_state .nil pass0 (pa_cons (pv 0) pa_nil)))
      (pss_cons (ps_set (i := 2) sc_law.nd rfl (Or.inl rfl) (pe_lst (pa_cons (pe_call G__law_near (hr.mono (by decide)) rfl T.mg__law_near T.F__law_near.kp T.b__law_near .nil pass0 (pa_cons (pv 1) (pa_cons pe_int (pa_cons pe_int pa_nil)))) (pa_cons (pe_call G__law_near (hr.mono (by decide)) rfl T.mg__law_near T.F__law_near.kp T.b__law_near .nil pass0 (pa_cons (pv 1) (pa_cons pe_int (pa_cons pe_int pa_nil)))) (pa_cons (pe_call G__law_near (hr.mono (by decide)) rfl T.mg__law_near T.F__law_near.kp T.b__law_near .nil pass0 (pa_cons (pv 1) (pa_cons pe_int (pa_cons pe_int pa_nil)))) (pa_cons pe_int (pa_cons (pe_call G__law_near (hr.mono (by decide)) rfl T.mg__law_near T.F__law_near.kp T.b__law_near .nil pass0 (pa_cons (pv 1) (pa_cons pe_int (pa_cons pe_int pa_nil)))) pa_nil)))))))
      (pss_cons (ps_asg (pe_call G__law_near (hr.mono (by decide)) rfl T.mg__law_near T.F__law_near.kp T.b__law_near .nil pass0 (pa_cons (pv 1) (pa_cons (pe_op op_add (pe_ix ix_list (pv 2) pe_int (fun _ _ => rfl)) pe_int) (pa_cons (pe_ix ix_list (pe_lst (pa_cons pe_int (pa_cons pe_int pa_nil))) (pe_call G__law_draw (hr.mono (by decide)) rfl T.mg__law_draw T.F__law_draw.kp T.b__law_draw .nil pass0 (pa_cons (pv 1) (pa_cons pe_int pa_nil))) (fun _ _ => rfl)) pa_nil)))) (pg_sub (pv 2) pe_int set_list))
      (pss_cons (ps_set (i := 3) sc_law.nd rfl (Or.inl rfl) (pe_lst pa_nil))
      h4)))), ?_⟩
    refine ⟨_, rfl, l0, ns, rfl, hS, hlen, fun a c H1 ha hc S1 SS1 => ?_⟩
    refine ⟨_, rfl, a, c, 2, 4, rfl, S1, by decide, by decide, fun f H2 f1 f2 S2 K2 => ?_⟩
    refine ⟨_, rfl, a, c, 1, 6, rfl, S2, by decide, by decide, fun d H3 d1 d2 S3 K3 => ?_⟩
    refine ⟨_, rfl, a, c, 1, 4, rfl, S3, by decide, by decide, fun w1 H4 w11 w12 S4 K4 => ?_⟩
    refine ⟨_, rfl, a, c, 0, 3, rfl, S4, by decide, by decide, fun s H5 s1 s2 S5 K5 => ?_⟩
    refine ⟨(by show 5 ≤ sizeLine; decide), fun lv hlv => ?_⟩
    have na : lv ≠ a := fun e => by obtain ⟨o, z⟩ := S5.some1; rw [← e, hlv] at z; cases z
    have nc : lv ≠ c := fun e => by obtain ⟨o, z⟩ := S5.some2; rw [← e, hlv] at z; cases z
    have Sv : StA a c (upd H5 lv (.lst ([f, d, w1, 0, s].map V.int))) := S5.keep (Same.new hlv)
    -- v[3] = ..
    refine ⟨_, rfl, _, rfl, lv, _, _, _, rfl, rfl, SqL.of upd_same, atI_nat (j := 1) rfl, _, _, rfl, rfl, (by show 2 ≤ sizeLine; decide), fun q hq => ?_⟩
    have nq : lv ≠ q := fun e => by rw [← e, upd_same] at hq; cases hq
    refine ⟨_, rfl, a, c, 2, rfl, Sv.keep (Same.new hq), by decide, by decide, fun r H6 r1 r2 S6 K6 => ?_⟩
    have hq6 := pickQ Sv hq K6
    have hv6 : H6 lv = some (.lst ([f, d, w1, 0, s].map V.int)) := K6 _ _ na nc (by rw [upd_ne nq]; exact upd_same)
    obtain ⟨g, hg, g1⟩ : ∃ g : Int, ([V.int 40, .int 1000] : List V)[r.toNat]? = some (.int g) ∧ (g = 40 ∨ g = 1000) := by
      have z : r = 0 ∨ r = 1 := by omega
      rcases z with rfl | rfl
      · exact ⟨40, rfl, .inl rfl⟩
      · exact ⟨1000, rfl, .inr rfl⟩
    refine ⟨q, _, _, _, rfl, rfl, SqL.of hq6, at_of (j := r.toNat) (by omega) hg, ?_⟩
    refine ⟨a, c, _, _, rfl, S6, by omega, by omega, fun b H7 b1 b2 S7 K7 => ?_⟩
    have hv7 := K7 _ _ na nc hv6
    refine ⟨_, rfl, lv, _, 3, _, rfl, rfl, hv7, ixN_nat (j := 3) (by show 3 < 5; decide), ?_⟩
    -- bad = []
    refine ⟨Nat.zero_le _, fun lb hlb => ?_⟩
    have nvb : lv ≠ lb := fun e => by rw [← e, upd_same] at hlb; cases hlb
    refine k4 lv lb l0 a f d w1 b s ⟨by omega, by omega⟩ _ _ ⟨[], rfl, nvb, by rw [upd_ne nvb, upd_same]; rfl, upd_same, Nat.le_refl _, rfl⟩

theorem all_mk {l : PySem.W.OpenLaw} {w : World} {K : PySem.W.Frag} {h : Heap} {mg : Str → Option Value} {fa : Addr} (X : K.In h) (G : h.Ns mainGlobals mg) (hfa : mg "law" = some (.ref fa))
    {f0 : Addr} {od0 an0 : Option Addr} {sl0 : Array (Option Value)} {oc0 kV0 dc0 pm0 cd0 ct0 : Value}
    {f1 : Addr} {od1 an1 : Option Addr} {sl1 : Array (Option Value)} {oc1 kV1 dc1 pm1 cd1 ct1 : Value}
    {f2 : Addr} {od2 an2 : Option Addr} {sl2 : Array (Option Value)} {oc2 kV2 dc2 pm2 cd2 ct2 : Value}
    {f3 : Addr} {od3 an3 : Option Addr} {sl3 : Array (Option Value)} {oc3 dc3 pm3 cd3 ct3 : Value}
    {kD3 : Addr} {tD3 : Tok}
    {f4 : Addr} {od4 an4 : Option Addr} {sl4 : Array (Option Value)} {oc4 kV4 dc4 pm4 cd4 ct4 : Value}
    {f5 : Addr} {od5 an5 : Option Addr} {sl5 : Array (Option Value)} {oc5 kV5 dc5 pm5 cd5 ct5 : Value}
    {f6 : Addr} {od6 an6 : Option Addr} {sl6 : Array (Option Value)} {oc6 kV6 dc6 pm6 cd6 ct6 : Value}
    {f7 : Addr} {od7 an7 : Option Addr} {sl7 : Array (Option Value)} {oc7 kV7 dc7 pm7 cd7 ct7 : Value}
    {f8 : Addr} {od8 an8 : Option Addr} {sl8 : Array (Option Value)} {oc8 kV8 dc8 pm8 cd8 ct8 : Value}
    {f9 : Addr} {od9 an9 : Option Addr} {sl9 : Array (Option Value)} {oc9 kV9 dc9 pm9 cd9 ct9 : Value}
    {f10 : Addr} {od10 an10 : Option Addr} {sl10 : Array (Option Value)} {oc10 kV10 dc10 pm10 cd10 ct10 : Value}
    {f11 : Addr} {od11 an11 : Option Addr} {sl11 : Array (Option Value)} {oc11 kV11 dc11 pm11 cd11 ct11 : Value}
    {f12 : Addr} {od12 an12 : Option Addr} {sl12 : Array (Option Value)} {oc12 kV12 dc12 pm12 cd12 ct12 : Value}
    {C_Shape : Addr}
    {t_MOST_DEPTH : Tok}
    {t_MOST_LEAVES : Tok}
    {t_MOST_BLOCKS : Tok}
    {f_ShapeError C_ShapeError C_CaissonError N_ShapeError cda_ShapeError cc_ShapeError : Addr} {an_ShapeError od_ShapeError dd_ShapeError cdd_ShapeError cld_ShapeError : Option Addr} {sl_ShapeError ccs_ShapeError csl_ShapeError : Array (Option Value)} {oc_ShapeError kV_ShapeError dc_ShapeError pm_ShapeError ct_ShapeError ccl_ShapeError cl_ShapeError : Value} {vs_ShapeError : Array Value} {file_ShapeError nm_ShapeError q_ShapeError : Str} {tf_ShapeError : Tok}
    {bs_ShapeError bm_ShapeError sub_ShapeError : List Value} {sn_ShapeError : List Str} {ab_ShapeError : Bool} {col_ShapeError : Option Bool} {k0_ShapeError k1_ShapeError k2_ShapeError k3_ShapeError k5_ShapeError : Option Value}
    (aCShape : PySem.W.nsIn K mainGlobals "Shape" = some (some (.ref C_Shape)))
    (aC_ShapeError : PySem.W.nsIn K mainGlobals "ShapeError" = some (some (.ref C_ShapeError)))
    (aC_CaissonError : PySem.W.nsIn K mainGlobals "CaissonError" = some (some (.ref C_CaissonError)))
    (a0 : PySem.W.nsIn K mainGlobals "leaves_below" = some (some (.ref f0)))
    (l0 : K.lookup f0 = some ⟨oc0, od0, .func (PySem.W.fnOf "leaves_below" "leaves_below" (defArgs s_leaves_below) (defBody s_leaves_below) (defScope s_leaves_below) .none kV0 dc0 pm0 an0 cd0 ct0), sl0⟩)
    (c0 : PySem.W.codeIn K cd0 "leaves_below" = true)
    (k0 : PySem.W.keepIn K (.ref f0) = true)
    (a1 : PySem.W.nsIn K mainGlobals "is_depth" = some (some (.ref f1)))
    (l1 : K.lookup f1 = some ⟨oc1, od1, .func (PySem.W.fnOf "is_depth" "is_depth" (defArgs s_is_depth) (defBody s_is_depth) (defScope s_is_depth) .none kV1 dc1 pm1 an1 cd1 ct1), sl1⟩)
    (c1 : PySem.W.codeIn K cd1 "is_depth" = true)
    (k1 : PySem.W.keepIn K (.ref f1) = true)
    (a2 : PySem.W.nsIn K mainGlobals "out_of_range" = some (some (.ref f2)))
    (l2 : K.lookup f2 = some ⟨oc2, od2, .func (PySem.W.fnOf "out_of_range" "out_of_range" (defArgs s_out_of_range) (defBody s_out_of_range) (defScope s_out_of_range) .none kV2 dc2 pm2 an2 cd2 ct2), sl2⟩)
    (c2 : PySem.W.codeIn K cd2 "out_of_range" = true)
    (k2 : PySem.W.keepIn K (.ref f2) = true)
    (a3 : PySem.W.findIn K (.ref C_Shape) "__init__" = some (some (.ref f3)))
    (i3 : PySem.W.isFn K (.ref f3) = true)
    (l3 : K.lookup f3 = some ⟨oc3, od3, .func (PySem.W.fnOf "__init__" "Shape.__init__" (defArgs s_Shape___init__) (defBody s_Shape___init__) (defScope s_Shape___init__) .none (.ref kD3) dc3 pm3 an3 cd3 ct3), sl3⟩)
    (c3 : PySem.W.codeIn K cd3 "Shape.__init__" = true)
    (k3 : PySem.W.keepIn K (.ref f3) = true)
    (q3 : PySem.W.nsIn K kD3 "snapshots" = some (some (.int 0 tD3)))
    (a4 : PySem.W.findIn K (.ref C_Shape) "leaves" = some (some (.ref f4)))
    (i4 : PySem.W.isFn K (.ref f4) = true)
    (l4 : K.lookup f4 = some ⟨oc4, od4, .func (PySem.W.fnOf "leaves" "Shape.leaves" (defArgs s_Shape_leaves) (defBody s_Shape_leaves) (defScope s_Shape_leaves) .none kV4 dc4 pm4 an4 cd4 ct4), sl4⟩)
    (c4 : PySem.W.codeIn K cd4 "Shape.leaves" = true)
    (k4 : PySem.W.keepIn K (.ref f4) = true)
    (a5 : PySem.W.findIn K (.ref C_Shape) "cells" = some (some (.ref f5)))
    (i5 : PySem.W.isFn K (.ref f5) = true)
    (l5 : K.lookup f5 = some ⟨oc5, od5, .func (PySem.W.fnOf "cells" "Shape.cells" (defArgs s_Shape_cells) (defBody s_Shape_cells) (defScope s_Shape_cells) .none kV5 dc5 pm5 an5 cd5 ct5), sl5⟩)
    (c5 : PySem.W.codeIn K cd5 "Shape.cells" = true)
    (k5 : PySem.W.keepIn K (.ref f5) = true)
    (a6 : PySem.W.findIn K (.ref C_Shape) "ample" = some (some (.ref f6)))
    (i6 : PySem.W.isFn K (.ref f6) = true)
    (l6 : K.lookup f6 = some ⟨oc6, od6, .func (PySem.W.fnOf "ample" "Shape.ample" (defArgs s_Shape_ample) (defBody s_Shape_ample) (defScope s_Shape_ample) .none kV6 dc6 pm6 an6 cd6 ct6), sl6⟩)
    (c6 : PySem.W.codeIn K cd6 "Shape.ample" = true)
    (k6 : PySem.W.keepIn K (.ref f6) = true)
    (a7 : PySem.W.nsIn K mainGlobals "_law_state" = some (some (.ref f7)))
    (l7 : K.lookup f7 = some ⟨oc7, od7, .func (PySem.W.fnOf "_law_state" "_law_state" (defArgs s__law_state) (defBody s__law_state) (defScope s__law_state) .none kV7 dc7 pm7 an7 cd7 ct7), sl7⟩)
    (c7 : PySem.W.codeIn K cd7 "_law_state" = true)
    (k7 : PySem.W.keepIn K (.ref f7) = true)
    (a8 : PySem.W.nsIn K mainGlobals "_law_draw" = some (some (.ref f8)))
    (l8 : K.lookup f8 = some ⟨oc8, od8, .func (PySem.W.fnOf "_law_draw" "_law_draw" (defArgs s__law_draw) (defBody s__law_draw) (defScope s__law_draw) .none kV8 dc8 pm8 an8 cd8 ct8), sl8⟩)
    (c8 : PySem.W.codeIn K cd8 "_law_draw" = true)
    (k8 : PySem.W.keepIn K (.ref f8) = true)
    (a9 : PySem.W.nsIn K mainGlobals "_law_near" = some (some (.ref f9)))
    (l9 : K.lookup f9 = some ⟨oc9, od9, .func (PySem.W.fnOf "_law_near" "_law_near" (defArgs s__law_near) (defBody s__law_near) (defScope s__law_near) .none kV9 dc9 pm9 an9 cd9 ct9), sl9⟩)
    (c9 : PySem.W.codeIn K cd9 "_law_near" = true)
    (k9 : PySem.W.keepIn K (.ref f9) = true)
    (a10 : PySem.W.nsIn K mainGlobals "_law_made" = some (some (.ref f10)))
    (l10 : K.lookup f10 = some ⟨oc10, od10, .func (PySem.W.fnOf "_law_made" "_law_made" (defArgs s__law_made) (defBody s__law_made) (defScope s__law_made) .none kV10 dc10 pm10 an10 cd10 ct10), sl10⟩)
    (c10 : PySem.W.codeIn K cd10 "_law_made" = true)
    (k10 : PySem.W.keepIn K (.ref f10) = true)
    (a11 : PySem.W.nsIn K mainGlobals "_law_levels" = some (some (.ref f11)))
    (l11 : K.lookup f11 = some ⟨oc11, od11, .func (PySem.W.fnOf "_law_levels" "_law_levels" (defArgs s__law_levels) (defBody s__law_levels) (defScope s__law_levels) .none kV11 dc11 pm11 an11 cd11 ct11), sl11⟩)
    (c11 : PySem.W.codeIn K cd11 "_law_levels" = true)
    (k11 : PySem.W.keepIn K (.ref f11) = true)
    (a12 : PySem.W.nsIn K mainGlobals "law" = some (some (.ref f12)))
    (l12 : K.lookup f12 = some ⟨oc12, od12, .func (PySem.W.fnOf "law" "law" (defArgs s_law) (defBody s_law) (defScope s_law) .none kV12 dc12 pm12 an12 cd12 ct12), sl12⟩)
    (c12 : PySem.W.codeIn K cd12 "law" = true)
    (k12 : PySem.W.keepIn K (.ref f12) = true)
    (pgShape : PySem.W.plainGet K C_Shape Str.empty = true)
    (hdShape : PySem.W.hasDictIn K C_Shape = true)
    (poShape : PySem.W.plainOver K C_Shape = true)
    (saShape : PySem.W.findIn K (.ref C_Shape) "__setattr__" = some (some (.builtin "object.__setattr__")))
    (mkShape : PySem.W.makesIn K C_Shape = true)
    (kcShape : PySem.W.keepIn K (.ref C_Shape) = true)
    (nShapefanout : PySem.W.findIn K (.ref C_Shape) "fanout" = some none)
    (nShapedepth : PySem.W.findIn K (.ref C_Shape) "depth" = some none)
    (nShapewords : PySem.W.findIn K (.ref C_Shape) "words" = some none)
    (nShapeblocks : PySem.W.findIn K (.ref C_Shape) "blocks" = some none)
    (nShapesnapshots : PySem.W.findIn K (.ref C_Shape) "snapshots" = some none)
    (gMOST_DEPTH : PySem.W.nsIn K mainGlobals "MOST_DEPTH" = some (some (.int 6 t_MOST_DEPTH)))
    (gMOST_LEAVES : PySem.W.nsIn K mainGlobals "MOST_LEAVES" = some (some (.int 64 t_MOST_LEAVES)))
    (gMOST_BLOCKS : PySem.W.nsIn K mainGlobals "MOST_BLOCKS" = some (some (.int 1000 t_MOST_BLOCKS)))
    (zrange : PySem.W.nsIn K mainGlobals "range" = some none)
    (zlen : PySem.W.nsIn K mainGlobals "len" = some none)
    (zabs : PySem.W.nsIn K mainGlobals "abs" = some none)
    (zint : PySem.W.nsIn K mainGlobals "int" = some none)
    (zsum : PySem.W.nsIn K mainGlobals "sum" = some none)
    (zisinstance : PySem.W.nsIn K mainGlobals "isinstance" = some none)
    (zsuper : PySem.W.nsIn K mainGlobals "super" = some none)
    (zValueError : PySem.W.nsIn K mainGlobals "ValueError" = some none)
    (ztuple : PySem.W.nsIn K mainGlobals "tuple" = some none)
    (ini_ShapeError : PySem.W.findIn K (.ref C_ShapeError) "__init__" = some (some (.ref f_ShapeError)))
    (ty_ShapeError : PySem.W.typeIn K (.ref f_ShapeError) = some (.type "function"))
    (l_ShapeError : K.lookup f_ShapeError = some ⟨oc_ShapeError, od_ShapeError, .func (PySem.W.ksFn "__init__" "ShapeError.__init__" (defArgs s_ShapeError___init__) (defBody s_ShapeError___init__) (defScope s_ShapeError___init__) .none kV_ShapeError dc_ShapeError pm_ShapeError an_ShapeError (.ref cda_ShapeError) ct_ShapeError cc_ShapeError), sl_ShapeError⟩)
    (c_ShapeError : PySem.W.codeIn K (.ref cda_ShapeError) "ShapeError.__init__" = true)
    (lc_ShapeError : K.lookup cc_ShapeError = some ⟨cl_ShapeError, cld_ShapeError, .cell (some (.ref C_ShapeError)), csl_ShapeError⟩)
    (ld_ShapeError : K.lookup cda_ShapeError = some ⟨ccl_ShapeError, cdd_ShapeError, .fields vs_ShapeError, ccs_ShapeError⟩)
    (v_ShapeError : vs_ShapeError[2]? = some (.str file_ShapeError tf_ShapeError))
    (lx_ShapeError : K.lookup C_ShapeError = some (PySem.excClassObj nm_ShapeError q_ShapeError C_ShapeError N_ShapeError bs_ShapeError bm_ShapeError true sn_ShapeError sub_ShapeError ab_ShapeError col_ShapeError dd_ShapeError k0_ShapeError k1_ShapeError k2_ShapeError k3_ShapeError k5_ShapeError "ValueError.__new__"))
    (rv_ShapeError : PySem.HandSPX.refsVE bm_ShapeError = true)
    (sa_ShapeError : PySem.W.findIn K (.ref C_ShapeError) "__setattr__" = some (some (.builtin "object.__setattr__")))
    (xb_ShapeError : PySem.W.subIn K (.ref C_ShapeError) (.type "BaseException") = some true)
    (xt_ShapeError : PySem.W.typeIn K (.ref C_ShapeError) = some (.type "type"))
    (xk_ShapeError : PySem.W.keepIn K (.ref C_ShapeError) = true)
    (hd_ShapeError : PySem.W.hasDictIn K C_ShapeError = true)
    (hd_CaissonError : PySem.W.hasDictIn K C_CaissonError = true)
    (xt_CaissonError : PySem.W.typeIn K (.ref C_CaissonError) = some (.type "type"))
    (ss_ShapeError : PySem.W.subIn K (.ref C_ShapeError) (.ref C_ShapeError) = some true)
    (sb_ShapeError : PySem.W.subIn K (.ref C_ShapeError) (.ref C_CaissonError) = some true)
    (sv_ShapeError : PySem.W.subIn K (.ref C_ShapeError) (.type "ValueError") = some true)
    (mr_ShapeError : PySem.W.mroIn K C_ShapeError (.ref C_ShapeError) = some true)
    (mo_ShapeError : PySem.W.mroIn K C_ShapeError (.type "object") = some true)
    (su_ShapeError : PySem.W.ks_superIn K C_ShapeError C_ShapeError "__init__" = some (some (.builtin "ValueError.__init__")))
    (th_ShapeError : PySem.W.nsIn K PySem.cStatics "thirdparty.any" = some none)
    (ga_ShapeError : PySem.W.findIn K (.ref C_ShapeError) "__getattribute__" = some (some (.builtin "BaseException.__getattribute__")))
    (gt_ShapeError : PySem.W.findIn K (.ref C_ShapeError) "__getattr__" = some none)
    (gc_ShapeError : PySem.W.findIn K (.ref C_ShapeError) "__class__" = some (some (.builtin "object.__class__")))
    (sp_ShapeError : PySem.W.specialIn K (.builtin "object.__class__") "__get__" = some (some (.builtin "getset_descriptor.__get__")))
    (tk_ShapeError : PySem.W.takesIn K (.builtin "object.__class__") = some true)
    (na_ShapeError : PySem.W.findIn K (.ref C_ShapeError) "name" = some none)
    (hf_ShapeError : ((l.prog.main.file : Str) == file_ShapeError) = true)
    (ht_ShapeError : (l.prog.main.scope.names.lookup ("super" : Str)).isSome = false)
    (gcS : PySem.W.findIn K (.ref C_Shape) "__class__" = some (some (.builtin "object.__class__")))
    (moS : PySem.W.mroIn K C_Shape (.type "object") = some true)
    (stS : PySem.W.subIn K (.ref C_Shape) (.type "tuple") = some false) :
    ∃ fd : FuncData, (∀ (s : Shared) (v : Value), BindsTo s fd ⟨[v], []⟩ [("script", v)]) ∧ ∀ base : Heap, K.In base → base.Ns mainGlobals mg → FnOk l.prog w K mg base CX0 7 fa fd ["script"] (spLaw K) := by
  have e := hfa.symm.trans (PySem.W.mg_of X G a12)
  cases e
  let T : Txt K mg := {
    f_leaves_below := f0, d_leaves_below := PySem.W.fnOf "leaves_below" "leaves_below" (defArgs s_leaves_below) (defBody s_leaves_below) (defScope s_leaves_below) .none kV0 dc0 pm0 an0 cd0 ct0, F_leaves_below := fun_mk (st := s_leaves_below) l0 c0 k0, b_leaves_below := ((fun_mk (st := s_leaves_below) l0 c0 k0).binds (ps := p_leaves_below) fun _ _ _ _ _ _ us hl => match us, hl with | [_, _], _ => rfl),
    mg_leaves_below := PySem.W.mg_of X G a0,
    f_is_depth := f1, d_is_depth := PySem.W.fnOf "is_depth" "is_depth" (defArgs s_is_depth) (defBody s_is_depth) (defScope s_is_depth) .none kV1 dc1 pm1 an1 cd1 ct1, F_is_depth := fun_mk (st := s_is_depth) l1 c1 k1, b_is_depth := ((fun_mk (st := s_is_depth) l1 c1 k1).binds (ps := p_is_depth) fun _ _ _ _ _ _ us hl => match us, hl with | [_, _], _ => rfl),
    mg_is_depth := PySem.W.mg_of X G a1,
    f_out_of_range := f2, d_out_of_range := PySem.W.fnOf "out_of_range" "out_of_range" (defArgs s_out_of_range) (defBody s_out_of_range) (defScope s_out_of_range) .none kV2 dc2 pm2 an2 cd2 ct2, F_out_of_range := fun_mk (st := s_out_of_range) l2 c2 k2, b_out_of_range := ((fun_mk (st := s_out_of_range) l2 c2 k2).binds (ps := p_out_of_range) fun _ _ _ _ _ _ us hl => match us, hl with | [_], _ => rfl),
    mg_out_of_range := PySem.W.mg_of X G a2,
    f_Shape___init__ := f3, d_Shape___init__ := PySem.W.fnOf "__init__" "Shape.__init__" (defArgs s_Shape___init__) (defBody s_Shape___init__) (defScope s_Shape___init__) .none (.ref kD3) dc3 pm3 an3 cd3 ct3, F_Shape___init__ := ⟨⟨_, _, _, _, _, _, _, _, _, _, rfl, l3, c3, .inl ⟨rfl, rfl⟩, .inr ⟨_, rfl, fun q hq => by rw [List.mem_singleton.mp hq]; exact ⟨_, q3, ⟨_, rfl⟩⟩⟩⟩, k3⟩,
    kb_Shape := kbd_Shape ⟨⟨_, _, _, _, _, _, _, _, _, _, rfl, l3, c3, .inl ⟨rfl, rfl⟩, .inr ⟨_, rfl, fun q hq => by rw [List.mem_singleton.mp hq]; exact ⟨_, q3, ⟨_, rfl⟩⟩⟩⟩, k3⟩,
    kb_Shape4 := kbd_Shape4 ⟨⟨_, _, _, _, _, _, _, _, _, _, rfl, l3, c3, .inl ⟨rfl, rfl⟩, .inr ⟨_, rfl, fun q hq => by rw [List.mem_singleton.mp hq]; exact ⟨_, q3, ⟨_, rfl⟩⟩⟩⟩, k3⟩,
    f_Shape_leaves := f4, d_Shape_leaves := PySem.W.fnOf "leaves" "Shape.leaves" (defArgs s_Shape_leaves) (defBody s_Shape_leaves) (defScope s_Shape_leaves) .none kV4 dc4 pm4 an4 cd4 ct4, F_Shape_leaves := fun_mk (st := s_Shape_leaves) l4 c4 k4, b_Shape_leaves := ((fun_mk (st := s_Shape_leaves) l4 c4 k4).binds (ps := p_Shape_leaves) fun _ _ _ _ _ _ us hl => match us, hl with | [_], _ => rfl),
    f_Shape_cells := f5, d_Shape_cells := PySem.W.fnOf "cells" "Shape.cells" (defArgs s_Shape_cells) (defBody s_Shape_cells) (defScope s_Shape_cells) .none kV5 dc5 pm5 an5 cd5 ct5, F_Shape_cells := fun_mk (st := s_Shape_cells) l5 c5 k5, b_Shape_cells := ((fun_mk (st := s_Shape_cells) l5 c5 k5).binds (ps := p_Shape_cells) fun _ _ _ _ _ _ us hl => match us, hl with | [_], _ => rfl),
    f_Shape_ample := f6, d_Shape_ample := PySem.W.fnOf "ample" "Shape.ample" (defArgs s_Shape_ample) (defBody s_Shape_ample) (defScope s_Shape_ample) .none kV6 dc6 pm6 an6 cd6 ct6, F_Shape_ample := fun_mk (st := s_Shape_ample) l6 c6 k6, b_Shape_ample := ((fun_mk (st := s_Shape_ample) l6 c6 k6).binds (ps := p_Shape_ample) fun _ _ _ _ _ _ us hl => match us, hl with | [_], _ => rfl),
    f__law_state := f7, d__law_state := PySem.W.fnOf "_law_state" "_law_state" (defArgs s__law_state) (defBody s__law_state) (defScope s__law_state) .none kV7 dc7 pm7 an7 cd7 ct7, F__law_state := fun_mk (st := s__law_state) l7 c7 k7, b__law_state := ((fun_mk (st := s__law_state) l7 c7 k7).binds (ps := p__law_state) fun _ _ _ _ _ _ us hl => match us, hl with | [_], _ => rfl),
    mg__law_state := PySem.W.mg_of X G a7,
    f__law_draw := f8, d__law_draw := PySem.W.fnOf "_law_draw" "_law_draw" (defArgs s__law_draw) (defBody s__law_draw) (defScope s__law_draw) .none kV8 dc8 pm8 an8 cd8 ct8, F__law_draw := fun_mk (st := s__law_draw) l8 c8 k8, b__law_draw := ((fun_mk (st := s__law_draw) l8 c8 k8).binds (ps := p__law_draw) fun _ _ _ _ _ _ us hl => match us, hl with | [_, _], _ => rfl),
    mg__law_draw := PySem.W.mg_of X G a8,
    f__law_near := f9, d__law_near := PySem.W.fnOf "_law_near" "_law_near" (defArgs s__law_near) (defBody s__law_near) (defScope s__law_near) .none kV9 dc9 pm9 an9 cd9 ct9, F__law_near := fun_mk (st := s__law_near) l9 c9 k9, b__law_near := ((fun_mk (st := s__law_near) l9 c9 k9).binds (ps := p__law_near) fun _ _ _ _ _ _ us hl => match us, hl with | [_, _, _], _ => rfl),
    mg__law_near := PySem.W.mg_of X G a9,
    f__law_made := f10, d__law_made := PySem.W.fnOf "_law_made" "_law_made" (defArgs s__law_made) (defBody s__law_made) (defScope s__law_made) .none kV10 dc10 pm10 an10 cd10 ct10, F__law_made := fun_mk (st := s__law_made) l10 c10 k10, b__law_made := ((fun_mk (st := s__law_made) l10 c10 k10).binds (ps := p__law_made) fun _ _ _ _ _ _ us hl => match us, hl with | [_], _ => rfl),
    mg__law_made := PySem.W.mg_of X G a10,
    f__law_levels := f11, d__law_levels := PySem.W.fnOf "_law_levels" "_law_levels" (defArgs s__law_levels) (defBody s__law_levels) (defScope s__law_levels) .none kV11 dc11 pm11 an11 cd11 ct11, F__law_levels := fun_mk (st := s__law_levels) l11 c11 k11, b__law_levels := ((fun_mk (st := s__law_levels) l11 c11 k11).binds (ps := p__law_levels) fun _ _ _ _ _ _ us hl => match us, hl with | [_, _], _ => rfl),
    mg__law_levels := PySem.W.mg_of X G a11,
    f_law := fa, d_law := PySem.W.fnOf "law" "law" (defArgs s_law) (defBody s_law) (defScope s_law) .none kV12 dc12 pm12 an12 cd12 ct12, F_law := fun_mk (st := s_law) l12 c12 k12, b_law := ((fun_mk (st := s_law) l12 c12 k12).binds (ps := p_law) fun _ _ _ _ _ _ us hl => match us, hl with | [_], _ => rfl),
    mg_law := PySem.W.mg_of X G a12,
    C_Shape := C_Shape, mg_Shape := PySem.W.mg_of X G aCShape, cl_Shape := ⟨pgShape, hdShape, poShape, saShape⟩,
    M_Shape := ⟨mkShape, a3, i3, kcShape⟩,
    na_Shape_fanout := nShapefanout,
    na_Shape_depth := nShapedepth,
    na_Shape_words := nShapewords,
    na_Shape_blocks := nShapeblocks,
    na_Shape_snapshots := nShapesnapshots,
    m_Shape_leaves := ⟨a4, i4, k4⟩,
    m_Shape_cells := ⟨a5, i5, k5⟩,
    m_Shape_ample := ⟨a6, i6, k6⟩,
    t_MOST_DEPTH := t_MOST_DEPTH, mg_MOST_DEPTH := PySem.W.mg_of X G gMOST_DEPTH,
    t_MOST_LEAVES := t_MOST_LEAVES, mg_MOST_LEAVES := PySem.W.mg_of X G gMOST_LEAVES,
    t_MOST_BLOCKS := t_MOST_BLOCKS, mg_MOST_BLOCKS := PySem.W.mg_of X G gMOST_BLOCKS,
    z_range := PySem.W.mg_none_of X G zrange,
    z_len := PySem.W.mg_none_of X G zlen,
    z_abs := PySem.W.mg_none_of X G zabs,
    z_int := PySem.W.mg_none_of X G zint,
    z_sum := PySem.W.mg_none_of X G zsum,
    z_isinstance := PySem.W.mg_none_of X G zisinstance,
    z_super := PySem.W.mg_none_of X G zsuper,
    z_ValueError := PySem.W.mg_none_of X G zValueError,
    z_tuple := PySem.W.mg_none_of X G ztuple,
    f_ShapeError := f_ShapeError, d_ShapeError := _, C_ShapeError := C_ShapeError, C_CaissonError := C_CaissonError, file_ShapeError := file_ShapeError, mg_ShapeError := PySem.W.mg_of X G aC_ShapeError, mg_CaissonError := PySem.W.mg_of X G aC_CaissonError,
    S_ShapeError := ⟨⟨_, _, _, _, cda_ShapeError, cc_ShapeError, _, _, _, _, rfl, l_ShapeError, c_ShapeError, ⟨⟨⟨_, _, _, _, _, _, _, _, _, _, _, _, _, _, _, lx_ShapeError, rv_ShapeError⟩, sa_ShapeError, xb_ShapeError, xt_ShapeError, xk_ShapeError⟩, hd_ShapeError, ⟨_, _, _, lc_ShapeError⟩, ⟨_, _, _, _, ld_ShapeError, _, v_ShapeError⟩, mr_ShapeError, sv_ShapeError, su_ShapeError, th_ShapeError, ⟨_, rfl, rfl⟩⟩⟩, ⟨⟨_, _, _, _, _, _, _, _, _, _, _, _, _, _, _, lx_ShapeError, rv_ShapeError⟩, sa_ShapeError, xb_ShapeError, xt_ShapeError, xk_ShapeError⟩, ini_ShapeError, ty_ShapeError, ⟨ga_ShapeError, gt_ShapeError, xb_ShapeError, hd_ShapeError, gc_ShapeError, sp_ShapeError, tk_ShapeError, mo_ShapeError⟩, ⟨ga_ShapeError, gt_ShapeError, xb_ShapeError, hd_ShapeError⟩, na_ShapeError, PySem.W.exm_ref xb_ShapeError hd_ShapeError xt_ShapeError ss_ShapeError, kit_ref hd_CaissonError xt_CaissonError sb_ShapeError, kit_VE sv_ShapeError⟩,
    gc_Shape := gcS, mo_Shape := moS, kt_Shape := kit_TF stS }
  exact ⟨_, fun s v => .of_eq rfl, fun base _ _ => ok_law T ⟨hf_ShapeError, ht_ShapeError⟩⟩
theorem walk {l : PySem.W.OpenLaw} {q : Program} {loose : List Str} {XP : (Str → Option Value) → Heap → Prop} {YP : World → Heap → Prop} {d : DefRec} {K : Params → PySem.W.Frag} (hn : l.most = some 63) (hdf : d.params.defaults = [])
    (hY : ∀ (w : World) (h : Heap), YP w h → (K w.params).In h)
    (F : ∀ (w : World) (mg : Str → Option Value) (fa : Addr) (h : Heap), (K w.params).In h → h.Ns mainGlobals mg → mg d.name = some (.ref fa) →
      ∃ fd : FuncData, (∀ (s : Shared) (u : Value), BindsTo s fd ⟨[u], []⟩ [("script", u)]) ∧ ∀ base : Heap, (K w.params).In base → base.Ns mainGlobals mg → FnOk l.prog w (K w.params) mg base CX0 7 fa fd ["script"] (spLaw (K w.params))) :
    PySem.W.WalkO q loose XP YP l.row.toRowW d [] (fun f vs => PySem.call f vs) :=
  L2.walk_of (n := 63) (k := 7) (x := "script") (CX := fun _ => CX0) (sp := fun w => spLaw (K w.params)) hn (by decide) hdf ⟨rfl, by decide, by decide⟩ hY F (fun _ _ a ns hl _ hS => ⟨a, ns, rfl, hS, hl, fun _ => rfl⟩) fun _ _ _ _ _ z => z
end Cs
open PySem PySem.W PyProof.Rows in
set_option maxRecDepth 100000 in
set_option maxHeartbeats 0 in
theorem PySem.Challenge.cw_caisson_k01_shapes_holds : PySem.Challenge.rw_caisson_k01_shapes.Holds := by
  w_on; o_law; k_head; (case hw => w_witness2)
  k_fill
  refine Cs.walk (l := PySem.Challenge.rw_caisson_k01_shapes) rfl rfl (fun w h Y => PySem.W.kIn_of Y) ?F
  case F =>
    intro w mg fa h KX G hmg
    refine' Cs.all_mk KX G hmg ?aCShape ?aC_ShapeError ?aC_CaissonError ?a0 ?l0 ?c0 ?k0 ?a1 ?l1 ?c1 ?k1 ?a2 ?l2 ?c2 ?k2 ?a3 ?i3 ?l3 ?c3 ?k3 ?q3 ?a4 ?i4 ?l4 ?c4 ?k4 ?a5 ?i5 ?l5 ?c5 ?k5 ?a6 ?i6 ?l6 ?c6 ?k6 ?a7 ?l7 ?c7 ?k7 ?a8 ?l8 ?c8 ?k8 ?a9 ?l9 ?c9 ?k9 ?a10 ?l10 ?c10 ?k10 ?a11 ?l11 ?c11 ?k11 ?a12 ?l12 ?c12 ?k12 ?pgShape ?hdShape ?poShape ?saShape ?mkShape ?kcShape ?nShapefanout ?nShapedepth ?nShapewords ?nShapeblocks ?nShapesnapshots ?gMOST_DEPTH ?gMOST_LEAVES ?gMOST_BLOCKS ?zrange ?zlen ?zabs ?zint ?zsum ?zisinstance ?zsuper ?zValueError ?ztuple ?ini_ShapeError ?ty_ShapeError ?l_ShapeError ?c_ShapeError ?lc_ShapeError ?ld_ShapeError ?v_ShapeError ?lx_ShapeError ?rv_ShapeError ?sa_ShapeError ?xb_ShapeError ?xt_ShapeError ?xk_ShapeError ?hd_ShapeError ?hd_CaissonError ?xt_CaissonError ?ss_ShapeError ?sb_ShapeError ?sv_ShapeError ?mr_ShapeError ?mo_ShapeError ?su_ShapeError ?th_ShapeError ?ga_ShapeError ?gt_ShapeError ?gc_ShapeError ?sp_ShapeError ?tk_ShapeError ?na_ShapeError ?hf_ShapeError ?ht_ShapeError ?gcS ?moS ?stS
    (case aCShape => k_is)
    (case aC_ShapeError => k_is)
    (case aC_CaissonError => k_is)
    (case a0 => k_is)
    (case l0 => k_is)
    (case c0 => k_is)
    (case k0 => k_is)
    (case a1 => k_is)
    (case l1 => k_is)
    (case c1 => k_is)
    (case k1 => k_is)
    (case a2 => k_is)
    (case l2 => k_is)
    (case c2 => k_is)
    (case k2 => k_is)
    (case a3 => k_is)
    (case i3 => k_is)
    (case l3 => k_is)
    (case c3 => k_is)
    (case k3 => k_is)
    (case q3 => k_is)
    (case a4 => k_is)
    (case i4 => k_is)
    (case l4 => k_is)
    (case c4 => k_is)
    (case k4 => k_is)
    (case a5 => k_is)
    (case i5 => k_is)
    (case l5 => k_is)
    (case c5 => k_is)
    (case k5 => k_is)
    (case a6 => k_is)
    (case i6 => k_is)
    (case l6 => k_is)
    (case c6 => k_is)
    (case k6 => k_is)
    (case a7 => k_is)
    (case l7 => k_is)
    (case c7 => k_is)
    (case k7 => k_is)
    (case a8 => k_is)
    (case l8 => k_is)
    (case c8 => k_is)
    (case k8 => k_is)
    (case a9 => k_is)
    (case l9 => k_is)
    (case c9 => k_is)
    (case k9 => k_is)
    (case a10 => k_is)
    (case l10 => k_is)
    (case c10 => k_is)
    (case k10 => k_is)
    (case a11 => k_is)
    (case l11 => k_is)
    (case c11 => k_is)
    (case k11 => k_is)
    (case a12 => k_is)
    (case l12 => k_is)
    (case c12 => k_is)
    (case k12 => k_is)
    (case pgShape => k_is)
    (case hdShape => k_is)
    (case poShape => k_is)
    (case saShape => k_is)
    (case mkShape => k_is)
    (case kcShape => k_is)
    (case nShapefanout => k_is)
    (case nShapedepth => k_is)
    (case nShapewords => k_is)
    (case nShapeblocks => k_is)
    (case nShapesnapshots => k_is)
    (case gMOST_DEPTH => k_is)
    (case gMOST_LEAVES => k_is)
    (case gMOST_BLOCKS => k_is)
    (case zrange => k_is)
    (case zlen => k_is)
    (case zabs => k_is)
    (case zint => k_is)
    (case zsum => k_is)
    (case zisinstance => k_is)
    (case zsuper => k_is)
    (case zValueError => k_is)
    (case ztuple => k_is)
    (case ini_ShapeError => k_is)
    (case ty_ShapeError => k_is)
    (case l_ShapeError => k_is)
    (case c_ShapeError => k_is)
    (case lc_ShapeError => k_is)
    (case ld_ShapeError => k_is)
    (case v_ShapeError => rfl)
    (case lx_ShapeError => k_is)
    (case rv_ShapeError => first | rfl | decide +kernel)
    (case sa_ShapeError => k_is)
    (case xb_ShapeError => k_is)
    (case xt_ShapeError => k_is)
    (case xk_ShapeError => k_is)
    (case hd_ShapeError => k_is)
    (case hd_CaissonError => k_is)
    (case xt_CaissonError => k_is)
    (case ss_ShapeError => k_is)
    (case sb_ShapeError => k_is)
    (case sv_ShapeError => k_is)
    (case mr_ShapeError => k_is)
    (case mo_ShapeError => k_is)
    (case su_ShapeError => ks_is)
    (case th_ShapeError => k_is)
    (case ga_ShapeError => k_is)
    (case gt_ShapeError => k_is)
    (case gc_ShapeError => k_is)
    (case sp_ShapeError => k_is)
    (case tk_ShapeError => k_is)
    (case na_ShapeError => k_is)
    (case hf_ShapeError => first | rfl | decide +kernel)
    (case ht_ShapeError => first | rfl | decide +kernel)
    (case gcS => k_is)
    (case moS => k_is)
    (case stS => k_is)
#print axioms PySem.Challenge.cw_caisson_k01_shapes_holds

