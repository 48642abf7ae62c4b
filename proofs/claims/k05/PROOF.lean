import PyProof.Rows.All
import Wide.All
import OpenK.AllK
import Wide.FinOn
import HandS.ForMost
import HandS.Style
import HandS.RevRange
import HandS.TupSets
import HandS.MakeKwOnly
import HandS.SetBool
import HandS.TupLe
import HandS.TupAny
import HandS.IsInst
import HandS.Deep
import HandS.Star
import HandS.ExcInit
import HandS.ExcIs
import HandS.ExcField
import HandS.TryOnly
import HandS.FStr
import HandS.ExcOwn
import HandS.WordsExc
import KE.KExcSuper
import KE.RegKSuper
import KE.KExcIs
import PyProof.P3Eq
import PySem.Challenge.RW_caisson_k05_talks
set_option Elab.async false
set_option maxRecDepth 100000
namespace Cs
open PySem L2
/-! ### a def of two parameters with a __class__ cell, over ValueError: super().__init__(e) and then the rest -/
section
open PySem.W PySem.Calls
def cxS (CX : CXT) (P : Program) (w : World) (K : PySem.W.Frag) (mg : Str → Option Value) (base : Heap) (N : List Str) (qual : Str) (scope : Scope) (f : Addr) (cd : Value) (cc : Addr) (A : Around) (outer : List Env) (s : Shared) (H : Hp) (E : XK) : Cx where
  prog := P
  w := w
  K := K
  mg := mg
  base := base
  A := A.deeper (ksEnv qual scope s.heap.objs.size f cd cc)
  N := N
  s_0 := s
  H_0 := H
  env := ksEnv qual scope s.heap.objs.size f cd cc
  outer := outer
  stack := ksEnv qual scope s.heap.objs.size f cd cc :: outer
  ex := []
  calm := true
  fn := fun _ => false
  pn := []
  xe := fun e s' => wpAny (model P w) (A.deeper (ksEnv qual scope s.heap.objs.size f cd cc)) (leaving (ksEnv qual scope s.heap.objs.size f cd cc) e) (fun _ s'' => CX outer H s E e s'') (fun e' s'' => CX outer H s E e' s'') s'
structure ScS (x : Str) (sc : Scope) : Prop where
  kind : sc.kind = .function
  co : sc.isCoroutine = false
  gen : sc.isGenerator = false
  ne : x ≠ "self"
  self : sc.names.lookup ("self" : Str) = some .local
  par : sc.names.lookup x = some .local
  cls : sc.names.lookup ("__class__" : Str) = some .free
  sup : sc.names.lookup ("super" : Str) = some .globalImplicit
  nocell : ∀ y ∈ sc.names, y.2 ≠ .cell
  free : ∀ y ∈ sc.names, y.2 = .free → y.1 = "__class__"
theorem look1 {x : Str} {cc c : Addr} (h : List.lookup x [(("__class__" : Str), cc)] = some c) : x = "__class__" ∧ c = cc := by
  unfold List.lookup at h
  split at h
  · rename_i e
    exact ⟨by simpa using e, (Option.some.inj h).symm⟩
  · cases h
theorem inv_startS {CX : CXT} {P : Program} {w : World} {K : PySem.W.Frag} {mg : Str → Option Value} {base : Heap} {x : Str} {qual : Str} {scope : Scope} {f cc D : Addr} {cd cl : Value} {cld : Option Addr} {csl : Array (Option Value)} {A : Around} {outer : List Env} {s : Shared} {H : Hp} {E : XK}
    {u1 u2 : Value} {v1 v2 : V} {h1 : Heap} {t : Nat}
    (S : ScS x scope) (hd : A.handled = none) (e0 : Env0 P w K mg base A outer s H) (r1 : RelV v1 u1) (r2 : RelV v2 u2) (hc : K.lookup cc = some ⟨cl, cld, .cell (some (.ref D)), csl⟩)
    (hns : h1.Ns s.heap.objs.size (fun y => ([(("self" : Str), u1), (x, u2)] : List (Str × Value)).reverse.lookup y)) (hk : ∀ b o, s.heap.get? b = some o → h1.get? b = some o) :
    Inv (cxS CX P w K mg base ["self", x] qual scope f cd cc A outer s H E) [] [some v1, some v2] H { s with heap := h1, toks := t } := by
  have noA : ∀ b : Addr, b ∉ (cxS CX P w K mg base ["self", x] qual scope f cd cc A outer s H E).ex := fun b z => absurd (show b ∈ ([] : List Addr) from z) (by simp)
  have cb : base.get? cc = some ⟨cl, cld, .cell (some (.ref D)), csl⟩ := e0.mod.kin _ _ hc
  refine ⟨⟨e0.mod, S.kind, rfl, rfl, Nat.le_refl _, fun y z c h1 h2 => ?_, fun y hy => ?_, fun y c z _ => ?_, fun _ => hd, Around.frames_deeper e0.frames, .inr ⟨rfl, rfl⟩, fun b z => absurd z (noA b), e0.bs, e0.bsz, fun b _ _ => noA b, fun b z => absurd z (noA b), e0.funs, e0.frf⟩,
    rfl, e0.bare, Un.kept hk, ⟨_, hns, fun i y v h1 h2 h3 => ?_⟩, fun y c h => ?_, e0.hok.fresh (Nat.le_refl _), fun y c h => ?_, fun p hp => absurd (show p ∈ ([] : List (Addr × Obj)) from hp) (by simp), e0.hok.kept hk, rfl⟩
  · exact (look1 h1).1.trans (look1 h2).1.symm
  · have hy : scope.names.lookup y = some .cell ∨ scope.names.lookup y = some .free := hy
    rcases hy with hy | hy
    · exact absurd rfl (S.nocell _ (PySem.mem_of_lookup hy))
    · have e := S.free _ (PySem.mem_of_lookup hy) rfl
      dsimp only at e
      subst e
      exact ⟨cc, rfl⟩
  · exact absurd (show false = true from z) (by decide)
  · have ne : (x == ("self" : Str)) = false := by simpa using S.ne
    have ne2 : (("self" : Str) == x) = false := by
      have := S.ne
      simp only [beq_eq_false_iff_ne, ne_eq]
      exact fun z => this z.symm
    match i, h1, h2 with
    | 0, h1, h2 =>
      cases h1
      cases h2
      refine ⟨u1, r1, .inl ⟨S.self, ?_⟩⟩
      simp [List.lookup, ne2]
    | 1, h1, h2 =>
      cases h1
      cases h2
      refine ⟨u2, r2, .inl ⟨S.par, ?_⟩⟩
      simp [List.lookup]
    | n + 2, h1, h2 => exact absurd (show (([] : List Str)[n]?) = some y from h1) (by simp)
  · obtain ⟨rfl, rfl⟩ := look1 h
    exact ⟨_, _, hk _ _ (e0.bs _ _ cb).1, rfl⟩
  · obtain ⟨rfl, rfl⟩ := look1 h
    exact (e0.bs _ _ cb).2
/-- ValueError.__init__ bound to a, called -/
theorem mwcall_ok {X : Cx} {pins : List (Addr × Obj)} {σ : St} {H : Hp} {s : Shared} {A : Around} {E : Value → Shared → Prop} {us : List Value} {u a C : Addr} {Q : Value → Shared → Prop} (T : OexC X.K C) (I : Inv X pins σ H s) (e : H a = some (exo a C none)) (hu : s.heap.get? u = some (kxs_mw "ValueError.__init__" a)) (hl : us.length ≤ sizeLine)
    (h : ∀ s', Inv X pins σ H s' → Q .none s') : wpAny (model X.prog X.w) A (call (.ref u) us) Q E s := by
  obtain ⟨nm, q, N, bs, bm, sn, sub, ab, col, dd, k0, k1, k2, k3, k5, hC, hbm⟩ := T.cls
  obtain ⟨t1, ho⟩ := exo_at I.hok e
  have hCh := I.kIn _ _ hC
  obtain ⟨hp, g, d, t, os⟩ := s
  have FB := PySem.F.excBase_ValueError
  refine wpAny_call (codeAny_of_tree ?_)
  show wpAny _ A.in1 (callAny (.ref u) ⟨us, []⟩) _ _ _
  simp only [callAny]
  refine wpAny_bind (wpAny_load hu ?_)
  simp only [kxs_mw, show (Value.type "method-wrapper" == Value.type "method" || Value.type "method-wrapper" == Value.type "builtin_function_or_method" || Value.type "method-wrapper" == Value.type "method-wrapper") = true by decide, if_true]
  refine KFB.if_so (by decide) ?_
  refine wpAny_bind (check_bound_init FB.toExcCallFacts hCh ho rfl ?_)
  refine wpAny_bind (wpAny_pure (wpAny_pure ?_))
  refine ⟨plainId_quiet FB.init.plain _, codeAny_builtin FB.initEntry ?_⟩
  refine exc_init_tree (cls := .ref C) (t0 := t1) (dv := none) (c2 := .none) (c3 := .none) (b4 := .bool false) ho hl fun h' k hx _ => ?_
  have J := I.write (t' := t) (x := a) (e := a) (o := exo a C none) (by rw [e]; exact True.intro) (.inl rfl) k ⟨_, hx⟩ (exo_ok hx)
  have eu : upd H a (exo a C none) = H := by
    funext b
    by_cases hb : b = a
    · rw [hb, upd_same, e]
    · rw [upd_ne hb]
  rw [eu] at J
  exact h _ J
/-- what the written part says for such an __init__ -/
structure SupC (file : Str) (K : PySem.W.Frag) (C cc cda : Addr) (params : Arguments) : Prop where
  ox : OexC K C
  hd : hasDictIn K C = true
  cell : ∃ cl cld csl, K.lookup cc = some ⟨cl, cld, .cell (some (.ref C)), csl⟩
  code : ∃ ccl cdd vs ccs, K.lookup cda = some ⟨ccl, cdd, .fields vs, ccs⟩ ∧ ∃ tf : Tok, vs[2]? = some (.str file tf)
  mro : mroIn K C (.ref C) = some true
  ve : subIn K (.ref C) (.type "ValueError") = some true
  sup : ks_superIn K C C "__init__" = some (some (.builtin "ValueError.__init__"))
  third : nsIn K cStatics "thirdparty.any" = some none
  par : ∃ ar, (params.posonlyargs ++ params.args).head? = some ar ∧ ar.arg = "self"
theorem fn_superV {CX : CXT} {P : Program} {w : World} {K : PySem.W.Frag} {mg : Str → Option Value} {base : Heap} {k : Nat} {f C cc cda : Addr} {name qual x file : Str} {params : Arguments} {body rest : List Stmt} {scope : Scope} {dV kV doc pm ct oc : Value} {an od : Option Addr} {osl : Array (Option Value)} {sp : Sp}
    {e : Expr} {p0 p1 p2 p3 p4 : Pos}
    (lk : K.lookup f = some ⟨oc, od, .func (ksFn name qual params body scope dV kV doc pm an (.ref cda) ct cc), osl⟩) (hcd : codeIn K (.ref cda) qual = true) (S : ScS x scope) (T : SupC file K C cc cda params) (hP : ((P.main.file : Str) == file) = true ∧ (P.main.scope.names.lookup ("super" : Str)).isSome = false) (hz : mg "super" = none)
    (hbody : body = .Expr (.Call (.Attribute (.Call (.Name "super" p0) [] [] p1) "__init__" p2) [e] [] p3) p4 :: rest)
    (len : ∀ vs H Q E, sp vs H Q E → vs.length = 2)
    (hrun : ∀ (A : Around) (outer : List Env) (s : Shared) (H : Hp) (vs : List V) (Q : VK) (E : XK), Room k (A.deeper (ksEnv qual scope s.heap.objs.size f (.ref cda) cc)) → sp vs H Q E →
      ∃ (a : Addr) (v : V) (te : TE) (t : TS), vs = [.ref a, v] ∧ H a = some (exo a C none) ∧ PE (cxS CX P w K mg base ["self", x] qual scope f (.ref cda) cc A outer s H E) e te ∧ PSs (cxS CX P w K mg base ["self", x] qual scope f (.ref cda) cc A outer s H E) rest t ∧
        ∀ R : VK, (∀ z H1, H1 a = some (exo a C none) → t { nx := fun _ H' => Q .non H', rt := Q } [some (.ref a), some v] H1 → R z H1) → te [some (.ref a), some v] H R)
    (hst : ∀ env, starEach [e] env = [(false, eval e env)]) (pl : Env → Sem Bool)
    (hev : ∀ env, eval (.Call (.Attribute (.Call (.Name "super" p0) [] [] p1) "__init__" p2) [e] [] p3) env = (do
      let ov ← attributeBase (.Call (.Name "super" p0) [] [] p1) "__init__" env (eval (.Call (.Name "super" p0) [] [] p1) env)
      standAt p2.atName
      let (f, first) ← holding [ov] (getMethod ov "__init__" (pl env))
      callWith p3 f first (backTo p3 (starEach [e] env)) [])) (hsw : ∀ env : Env, swapsWith (.Call (.Attribute (.Call (.Name "super" p0) [] [] p1) "__init__" p2) [e] [] p3) none p4.line env = pure false) :
    FnOk P w K mg base CX (k + 1) f (ksFn name qual params body scope dV kV doc pm an (.ref cda) ct cc) ["self", x] sp := by
  subst hbody
  refine ⟨len, fun A outer s H args us vs Q E hr e0 hb r hsp => ?_⟩
  obtain ⟨a, v, te, t, rfl, ha, hte, hts, hq⟩ := hrun A outer s H vs Q E (hr.deeper _) hsp
  have KX : K.In s.heap := e0.mod.kin.keeps fun b o e => (e0.bs b o e).1
  have lim : s.heap.NoLimit := e0.mod.nolimit.keeps fun b o e => (e0.bs b o e).1
  obtain ⟨u1, u2, rfl, ra, rv⟩ : ∃ u1 u2, us = [u1, u2] ∧ RelV (.ref a) u1 ∧ RelV v u2 := by
    cases r with
    | cons r1 r => cases r with
      | cons r2 r => cases r; exact ⟨_, _, rfl, r1, r2⟩
  obtain rfl : u1 = Value.ref a := ra
  obtain ⟨cl, cld, csl, hcell⟩ := T.cell
  obtain ⟨ccl, cdd, vsC, ccs, hcode, tf, hvs⟩ := T.code
  obtain ⟨ar, har, hself⟩ := T.par
  obtain ⟨cd, hcls, _⟩ := any_some T.hd
  refine ks_codeAny_call_defAt (fd := ksFn name qual params _ scope dV kV doc pm an (.ref cda) ct cc) (binds := [(("self" : Str), Value.ref a), (x, u2)]) hr.depth (KX _ _ lk) rfl lim (codeRec_of KX hcd) rfl hb S.nocell ?_ (fun h1 hns hk => ?_) S.co S.gen S.kind
  · intro y hy
    rcases List.mem_cons.mp hy with rfl | hy
    · exact S.self
    · rcases List.mem_cons.mp hy with rfl | hy
      · exact S.par
      · cases hy
  have I : Inv (cxS CX P w K mg base ["self", x] qual scope f (.ref cda) cc A outer s H E) [] [some (.ref a), some v] H { s with heap := h1, toks := s.toks + ([(("self" : Str), Value.ref a), (x, u2)]).length } :=
    inv_startS S hr.hd e0 rfl rv hcell hns hk
  show _root_.PySem.wpAt (model P w) (A.deeper (ksEnv qual scope s.heap.objs.size f (.ref cda) cc)) (.func _ (ksEnv qual scope s.heap.objs.size f (.ref cda) cc)) (execs _ (ksEnv qual scope s.heap.objs.size f (.ref cda) cc)) _
    (cxS CX P w K mg base ["self", x] qual scope f (.ref cda) cc A outer s H E).xe _
  have okL : List.lookup ("self" : Str) ([(("self" : Str), Value.ref a), (x, u2)]).reverse = some (Value.ref a) := by
    have ne : (("self" : Str) == x) = false := by
      have := S.ne
      simp only [beq_eq_false_iff_ne, ne_eq]
      exact fun z => this z.symm
    simp [List.lookup, ne]
  refine ks_wpAt_execs_cons ?_
  refine ks_wpAt_Expr_any ?_ (by simp [interactive, S.kind]) (hsw _)
  refine ks_wpAt_MethodCall ?_ (hev _)
  have KX1 : K.In h1 := I.kIn
  obtain ⟨t1, hao⟩ := exo_at I.hok ha
  have hIa : InstAt h1 a { cls := .ref C, dict := none, data := .fields #[.ref t1, .none, .none, .none, .bool false, .none] } C none := ⟨hao, rfl, rfl, trivial⟩
  obtain ⟨oD, hD1, hD2⟩ : ∃ oD, h1.get? C = some oD ∧ oD.data = .cls cd := by
    unfold clsIn at hcls
    split at hcls
    · rename_i c d cd' sl ho
      cases hcls
      exact ⟨_, KX1 _ _ ho, rfl⟩
    · cases hcls
  refine ks_wpAt_super_base (f := f) (cc := cda) (fd := ksFn name qual params _ scope dV kV doc pm an (.ref cda) ct cc) S.sup S.cls (by decide) rfl (KX1 _ _ lk) rfl har rfl (KX1 _ _ hcode) rfl hvs hP.1 hP.2 ?_
  rw [hself]
  obtain ⟨mb, hb1, hb2⟩ := I.mod.blt
  refine ks_loadName_global S.kind S.sup (loadGlobal_builtin (I.mod.glob.keeps I.bk) hz (hb1.keeps I.bk) ((hb2 _ (by decide)).trans (by first | boot_by_name | rfl | kernel_rfl)) ⟨rfl, ?_⟩)
  refine wpAny_loadName_free S.kind S.cls (List.lookup_cons_self ..) ⟨_, KX1 _ _ hcell, rfl⟩ ?_
  refine wpAny_loadName_local S.kind S.self hns okL ?_
  refine ks_wpAny_isType_cls hD1 hD2 ⟨rfl, ?_⟩
  refine ks_wpAny_call_super hD1 hD2 hao rfl (fun c z => by cases z) (looks_mroIn KX1 T.mro) (fun h2 e2 k2 => ?_)
  have I1 := I.kept (t' := s.toks + [(("self" : Str), Value.ref a), (x, u2)].length) k2
  have KX2 : K.In h2 := I1.kIn
  have hIa2 : InstAt h2 a { cls := .ref C, dict := none, data := .fields #[.ref t1, .none, .none, .none, .bool false, .none] } C none := ⟨k2 _ _ hao, rfl, rfl, trivial⟩
  have hm := T.sup
  unfold ks_superIn at hm
  rw [hcls] at hm
  refine kxs_getMethod kxs_ValueError e2 (looks_opaque KX2 T.third) (l₀ := cd.mro) (fun A Q E s k q => wpAny_bind ((looks_clsIn KX2 hcls) A _ E s k (wpAny_pure q))) rfl KX2 hm (hIa2.type.andThen (looks_subIn KX2 T.ve)) (ks_ne KX2 hIa2 hcls) (by decide) ?_
  have I2 := I1.kept (t' := s.toks + [(("self" : Str), Value.ref a), (x, u2)].length + 1) (h' := h2.push (kxs_mw "ValueError.__init__" a)) (fun b o q => Heap.get?_push_of_some _ q)
  have I3 := I2.pins_of (pins' := [(h2.objs.size, kxs_mw "ValueError.__init__" a)]) (fun p hp => by
    rw [List.mem_singleton.mp hp]
    exact ⟨Heap.get?_push_at rfl rfl, I1.hok.fresh (Nat.le_refl _), Nat.ne_of_gt I1.lt, I1.nofs (Nat.le_refl _), fun v z => by cases z⟩)
  dsimp only
  rw [hst]
  refine kxs_callWith (i := "ValueError.__init__") (x := a) rfl ?_
  show wpAny _ _ (evalArgs _ true ((false, _) :: backTo _ []) []) _ _ _
  refine evalArgs_plain ?_
  have hp := (pa_cons hte pa_nil (hst _)).run p3 [(h2.objs.size, kxs_mw "ValueError.__init__" a)] _ [some (.ref a), some v] H (fun vs H1 => vs.length = 1 ∧ H1 a = some (exo a C none) ∧ t { nx := fun _ H' => Q .non H', rt := Q } [some (.ref a), some v] H1) I3 (hq _ fun z H1 p q => ⟨rfl, p, q⟩)
  rw [hst] at hp
  refine thn hp fun us s3 hu => ?_
  obtain ⟨vs, H1, I4, r4, hl4, ha4, ht⟩ := hu
  have hpin := (I4.pin (h2.objs.size, kxs_mw "ValueError.__init__" a) (List.mem_append_right _ (List.mem_singleton.mpr rfl))).1
  refine ⟨hpin, ?_⟩
  refine mwcall_ok T.ox I4 ha4 hpin (by rw [List.nil_append, ← Paired.length r4, hl4]; decide) fun s4 I5 => ?_
  refine wpAt_of_wpAny ?_
  have I6 := I5.pins_of (pins' := []) fun p hp => nomatch hp
  refine wpAny_mono (hts.run [] s4 _ H1 _ I6 ht) (fun fl s' hs => ?_) fun e s' hs => hs
  have fin : ∀ {σ' : St} {H' : Hp} {v : V} {u : Value}, Inv (cxS CX P w K mg base ["self", x] qual scope f (.ref cda) cc A outer s H E) [] σ' H' s' → RelV v u → Q v H' → CE outer P w H s Q u s' :=
    fun {σ' H' v u} J rv q => ⟨v, H', J.os, J.bare, J.base, J.hok, rv, q⟩
  cases fl with
  | ret u =>
    obtain ⟨v, σ', H', J, rv, q⟩ := hs
    exact fin J rv q
  | next =>
    obtain ⟨σ', H', J, q⟩ := hs
    exact fin (v := V.non) (u := Value.none) J rfl q
  | brk =>
    obtain ⟨_, _, _, q⟩ := hs
    exact False.elim q
  | cont =>
    obtain ⟨_, _, _, q⟩ := hs
    exact False.elim q
end

/-! ### C(k = v, ..) whose __init__ may raise, at the slots of the call -/
def tMakeKS (C : Addr) (m : Nat) (sp : Sp) (gV : List V → List V → List V) (E : St → XK) (tk : TA) : TE := fun σ H Q => tk σ H fun zs H2 => zs.length = m ∧ ∀ x dx, H2 x = none → H2 dx = none → dx ≠ x →
  sp (gV [.ref x] zs) (upd (upd H2 dx (.own x)) x (.ins C dx [])) (fun v H3 => v = .non ∧ Q (.ref x) H3) (E σ)
section
variable {X : Cx} {CX : CXT} {k n : Nat} {f C : Addr} {fd : FuncData} {ps ks : List Str} {sp : Sp} {E : St → XK} {x : Str} {p pos : Pos} {kws : List Keyword} {t tk : TA} {g : List Value → List Value → List Value} {gV : List V → List V → List V}
theorem pe_makeKS (M : Mk X.K C f) (F : FnOk X.prog X.w X.K X.mg X.base CX k f fd ps sp) (hr : Room (k + 1) X.A) (hg : Gl X x) (hm : X.mg x = some (.ref C)) (hb : KBn X.K fd ps 1 ks g gV) (hx : ∀ σ, PassesAt CX X σ (E σ)) (hkw : PK X kws tk)
    (hall : (backToKw pos (keywordEach kws X.env)).all (·.1.isSome) = true := by rfl) (hks : (backToKw pos (keywordEach kws X.env)).filterMap (·.1) = ks := by rfl) (hdb : (x == ("__debug__" : Str)) = false := by decide)
    (hpl : ((backTo pos (starEach [] X.env)).any (·.1) || (backToKw pos (keywordEach kws X.env)).any (·.1.isNone)) = false := by rfl) :
    PE X (.Call (.Name x p) [] kws pos) (tMakeKS C ks.length sp gV E tk) := by
  refine ⟨fun pins s σ H Q I h => ?_⟩
  refine wpAny_Call_Name_kw (ld_glob I hg hm ?_ hdb)
  refine PySem.W.callWith_KW0 (h₀ := X.base) I.ok.mod.kin M.kp hall ?_ hpl
  refine thn (hkw.run pos pins s σ H _ I h) fun ws s2 ⟨zs, H2, I2, rz, l2, q2⟩ => ⟨I2.kIn, ?_⟩
  rw [hks]
  have hq := q2 (s2.heap.objs.size + 1) s2.heap.objs.size (I2.hok.fresh (Nat.le_succ _)) (I2.hok.fresh (Nat.le_refl _)) (Nat.ne_of_lt (Nat.lt_succ_self _))
  have I3 := Inv.made (C := C) I2
  have r1 : Vals [V.ref (s2.heap.objs.size + 1)] [Value.ref (s2.heap.objs.size + 1)] := .cons rfl .nil
  have r2 := hb.rel r1 rz
  refine wpAny_call (make_map (f := f) I2.kIn M.makes M.init (beq_iff_eq.mp M.fn) (codeAny_mono (F.run _ X.stack _ _ ⟨[Value.ref (s2.heap.objs.size + 1)], ks.zip ws⟩ (g [Value.ref (s2.heap.objs.size + 1)] ws) _ _ (E σ) (hr.make C [] (ks.zip ws))
    (I3.env0.make C [] (ks.zip ws)) (hb.to _ [Value.ref (s2.heap.objs.size + 1)] ws I3.kIn rfl (rz.length.symm.trans l2)) r2 hq) fun r s' hq' => ?_))
  cases r with
  | error e => exact hx σ pins _ _ e s' I3 hq'
  | ok fl =>
    cases fl with
    | ret u =>
      obtain ⟨v, H', I4, rv, ev, q3⟩ := I3.after hq'
      subst ev
      exact ⟨rv, ⟨V.ref (s2.heap.objs.size + 1), H', I4, rfl, q3⟩⟩
    | next => exact False.elim hq'
    | brk => exact False.elim hq'
    | cont => exact False.elim hq'
end
/-! ### isinstance of a caught error that has a dict -/
/-- isinstance(e, c), e the exception that the suite holds, with its dict -/
def rIsEO (K : PySem.W.Frag) (D a : Addr) (cls : Value) (d : Option Addr) : List V → Hp → VK → Prop := fun xs H Q => ∃ (c : V) (cv : Value) (b : Bool) (dd : Addr) (fs : List (Str × V)), xs = [.ref a, c] ∧ cls = .ref D ∧ d = some dd ∧ H dd = some (.xd fs) ∧ (∀ u, RelV c u → u = cv) ∧ PySem.W.kitOne K (.ref D) cv = some b ∧ Q (.bl b) H
theorem call_isEO {X : Cx} {a D : Addr} {cls : Value} {d : Option Addr} {oe : Obj} {pn : List (Addr × Obj)} (C : ExcC X.K D) (hz : Zc cls d oe) (hf : ∃ vs, oe.data = .fields vs) : CallR (X.suite a ((a, oe) :: pn)) (.builtin "isinstance") (rIsEO X.K D a cls d) := by
  intro pins s σ H xs us Q I r h
  obtain ⟨c, cv, b, dd, fs, rfl, ec, ed, ea, hcv, e, q⟩ := h
  subst ec
  subst ed
  cases r with
  | cons rx rr =>
    cases rr with
    | cons rt rr =>
      cases rr
      cases rx
      have ec := hcv _ rt
      subst ec
      obtain ⟨hget, _⟩ := I.pin (a, oe) (List.mem_append.mpr (.inl List.mem_cons_self))
      obtain ⟨vs, hv⟩ := hf
      have hx : ObjOk X.prog X.w H s.heap dd (.xd fs) := I.hok dd _ ea
      obtain ⟨mA, hns, hr⟩ := hx
      obtain ⟨od, ho, hl⟩ := lookIn_ns hns
      have J : PySem.W.InstAt s.heap a oe D (some od) := ⟨hget, hz.1, by unfold PySem.W.notCls; rw [hv] <;> rfl, by rw [hz.2]; exact ho⟩
      exact PySem.W.kia_one (PySem.W.kitx_exc (by obtain ⟨cd, hc, _⟩ := PySem.W.any_some C.hd; rw [hc]; rfl) C.hg C.hk C.hs C.ha C.hn C.ht C.hm) I.kIn J e (fun z => nomatch z) fun tk => ⟨.bl b, H, I.kept (t' := tk) fun _ _ z => z, rfl, q⟩

/-- an own error over ValueError whose __init__ says super().__init__(e): its facts -/
structure SupFn (K : PySem.W.Frag) (C B f : Addr) (fd : FuncData) (st : Stmt) (qual fld file : Str) : Prop where
  ex : ∃ (oc : Value) (od an : Option Addr) (osl : Array (Option Value)) (cda cc : Addr) (kV doc pm ct : Value), fd = PySem.W.ksFn "__init__" qual (defArgs st) (defBody st) (defScope st) .none kV doc pm an (.ref cda) ct cc ∧
    K.lookup f = some ⟨oc, od, .func fd, osl⟩ ∧ PySem.W.codeIn K (.ref cda) qual = true ∧ SupC file K C cc cda (defArgs st)
  ox : OexC K C
  ini : PySem.W.findIn K (.ref C) "__init__" = some (some (.ref f))
  ty : PySem.W.typeIn K (.ref f) = some (.type "function")
  exc : ExcC K C
  xf : XfC K C
  na : PySem.W.findIn K (.ref C) fld = some none
  exm : PySem.W.exmOne K (.ref C) (.ref C) = some true
  kitB : PySem.W.kitOne K (.ref C) (.ref B) = some true
  kitV : PySem.W.kitOne K (.ref C) (.type "ValueError") = some true
theorem kit_ref {K : PySem.W.Frag} {t : Value} {B : Addr} (hd : PySem.W.hasDictIn K B = true) (ht : PySem.W.typeIn K (.ref B) = some (.type "type")) (hs : PySem.W.subIn K t (.ref B) = some true) : PySem.W.kitOne K t (.ref B) = some true := by
  obtain ⟨cd, hc, _⟩ := PySem.W.any_some hd
  unfold PySem.W.kitOne
  split
  · rfl
  · show (if ((PySem.W.clsIn K B).isSome && PySem.W.typeIn K (.ref B) == some (.type "type")) = true then PySem.W.subIn K t (.ref B) else none) = some true
    rw [hc, ht]
    exact hs
theorem kit_VE {K : PySem.W.Frag} {t : Value} (hs : PySem.W.subIn K t (.type "ValueError") = some true) : PySem.W.kitOne K t (.type "ValueError") = some true := by
  unfold PySem.W.kitOne
  split
  · rfl
  · show (if PySem.W.kitMeta "ValueError" = true then PySem.W.subIn K t (.type "ValueError") else none) = some true
    rw [if_pos (by decide +kernel)]
    exact hs
theorem kit_TF {K : PySem.W.Frag} {C : Addr} (hs : PySem.W.subIn K (.ref C) (.type "tuple") = some false) : PySem.W.kitOne K (.ref C) (.type "tuple") = some false := by
  unfold PySem.W.kitOne
  rw [if_neg (by intro z; have := beq_iff_eq.mp z; cases this)]
  show (if PySem.W.kitMeta "tuple" = true then PySem.W.subIn K (.ref C) (.type "tuple") else none) = some false
  rw [if_pos (by decide +kernel)]
  exact hs

/-! ### a def with a __class__ cell in a class without errors: super().m(e, ..) as a statement of its body -/
section
open PySem.W PySem.Calls
structure ScO (N ps : List Str) (sc : Scope) : Prop where
  kind : sc.kind = .function
  co : sc.isCoroutine = false
  gen : sc.isGenerator = false
  nd : N.Nodup
  pre : N.take ps.length = ps
  par : ∀ x ∈ ps, sc.names.lookup x = some .local
  first : N[0]? = some ("self" : Str)
  self : sc.names.lookup ("self" : Str) = some .local
  cls : sc.names.lookup ("__class__" : Str) = some .free
  sup : sc.names.lookup ("super" : Str) = some .globalImplicit
  nocell : ∀ y ∈ sc.names, y.2 ≠ .cell
  free : ∀ y ∈ sc.names, y.2 = .free → y.1 = "__class__"
theorem lookup_mem {y : Str} {u : Value} : ∀ {l : List (Str × Value)}, (l.map (·.1)).Nodup → (y, u) ∈ l → l.lookup y = some u
  | (z, v) :: l, hn, hm => by
    have hn' := List.nodup_cons.mp hn
    rcases List.mem_cons.mp hm with e | hm
    · cases e
      rw [List.lookup, beq_self_eq_true]
    · have ne : (y == z) = false := by
        simpa using fun q : y = z => hn'.1 (List.mem_map.mpr ⟨(y, u), hm, q⟩)
      rw [List.lookup, ne]
      exact lookup_mem hn'.2 hm
theorem zip_rev {ps : List Str} {us : List Value} {i : Nat} {y : Str} {u : Value} (hn : ps.Nodup) (hl : us.length = ps.length) (hp : ps[i]? = some y) (hu : us[i]? = some u) : (ps.zip us).reverse.lookup y = some u := by
  refine lookup_mem ?_ ?_
  · rw [List.map_reverse, List.map_fst_zip (by omega)]
    exact (List.reverse_perm _).nodup_iff.mpr hn
  · rw [List.mem_reverse]
    have hz : (ps.zip us)[i]? = some (y, u) := by rw [List.getElem?_zip_eq_some]; exact ⟨hp, hu⟩
    exact List.mem_of_getElem? hz
theorem inv_startO {CX : CXT} {P : Program} {w : World} {K : PySem.W.Frag} {mg : Str → Option Value} {base : Heap} {N ps : List Str} {qual : Str} {scope : Scope} {f cc D : Addr} {cd cl : Value} {cld : Option Addr} {csl : Array (Option Value)} {A : Around} {outer : List Env} {s : Shared} {H : Hp} {E : XK}
    {us : List Value} {vs : List V} {h1 : Heap} {t : Nat}
    (S : ScO N ps scope) (hd : A.handled = none) (e0 : Env0 P w K mg base A outer s H) (hl : vs.length = ps.length) (r : Vals vs us) (hc : K.lookup cc = some ⟨cl, cld, .cell (some (.ref D)), csl⟩)
    (hns : h1.Ns s.heap.objs.size (fun y => (ps.zip us).reverse.lookup y)) (hk : ∀ b o, s.heap.get? b = some o → h1.get? b = some o) :
    Inv (cxS CX P w K mg base N qual scope f cd cc A outer s H E) [] (start N vs) H { s with heap := h1, toks := t } := by
  have hpl : ps.length ≤ N.length := by have := congrArg List.length S.pre; rw [List.length_take] at this; omega
  have ndP : ps.Nodup := by rw [← S.pre]; exact S.nd.sublist (List.take_sublist _ _)
  have noA : ∀ b : Addr, b ∉ (cxS CX P w K mg base N qual scope f cd cc A outer s H E).ex := fun b z => absurd (show b ∈ ([] : List Addr) from z) (by simp)
  have cb : base.get? cc = some ⟨cl, cld, .cell (some (.ref D)), csl⟩ := e0.mod.kin _ _ hc
  refine ⟨⟨e0.mod, S.kind, rfl, rfl, Nat.le_refl _, fun y z c h1 h2 => ?_, fun y hy => ?_, fun y c z _ => ?_, fun _ => hd, Around.frames_deeper e0.frames, .inr ⟨rfl, rfl⟩, fun b z => absurd z (noA b), e0.bs, e0.bsz, fun b _ _ => noA b, fun b z => absurd z (noA b), e0.funs, e0.frf⟩,
    rfl, e0.bare, Un.kept hk, ⟨_, hns, fun i y v g1 g2 _ => ?_⟩, fun y c h => ?_, e0.hok.fresh (Nat.le_refl _), fun y c h => ?_, fun p hp => absurd (show p ∈ ([] : List (Addr × Obj)) from hp) (by simp), e0.hok.kept hk, ?_⟩
  · exact (look1 h1).1.trans (look1 h2).1.symm
  · have hy : scope.names.lookup y = some .cell ∨ scope.names.lookup y = some .free := hy
    rcases hy with hy | hy
    · exact absurd rfl (S.nocell _ (PySem.mem_of_lookup hy))
    · have e := S.free _ (PySem.mem_of_lookup hy) rfl
      dsimp only at e
      subst e
      exact ⟨cc, rfl⟩
  · exact absurd (show false = true from z) (by decide)
  · have hi : i < vs.length := by
      unfold L2.start at g2
      by_cases hi : i < vs.length
      · exact hi
      · rw [List.getElem?_append_right (by simpa using hi), List.getElem?_replicate] at g2
        split at g2 <;> cases g2
    have ha : vs[i]? = some v := by
      unfold L2.start at g2
      rw [List.getElem?_append_left (by simpa using hi), List.getElem?_map] at g2
      cases e : vs[i]? with
      | none => rw [e] at g2; cases g2
      | some a => rw [e] at g2; cases g2; rfl
    obtain ⟨u, hu, rv⟩ := r.get ha
    have hp : ps[i]? = some y := by
      rw [← S.pre, List.getElem?_take_of_lt (by omega)]; exact g1
    exact ⟨u, rv, .inl ⟨S.par y (List.mem_of_getElem? hp), zip_rev ndP (by rw [← r.length]; exact hl) hp hu⟩⟩
  · obtain ⟨rfl, rfl⟩ := look1 h
    exact ⟨_, _, hk _ _ (e0.bs _ _ cb).1, rfl⟩
  · obtain ⟨rfl, rfl⟩ := look1 h
    exact (e0.bs _ _ cb).2
  · unfold L2.start
    show _ = N.length
    rw [List.length_append, List.length_map, List.length_replicate]
    omega
/-- statements of a def's own body: they may say super() -/
structure PSsA (X : Cx) (c : Code) (st : List Stmt) (t : TS) : Prop where
  run : ∀ (pins : List (Addr × Obj)) (s : Shared) (σ : St) (H : Hp) (D : Ends), Inv X pins σ H s → t D σ H → _root_.PySem.wpAt (model X.prog X.w) X.A c (execs st X.env) (SP X pins D) X.xe s
theorem psa_of {X : Cx} {c : Code} {st : List Stmt} {t : TS} (h : PSs X st t) : PSsA X c st t := ⟨fun pins s σ H D I q => wpAt_of_wpAny (h.run pins s σ H D I q)⟩
theorem psa_cons {X : Cx} {c : Code} {st : Stmt} {rest : List Stmt} {t u : TS} (h1 : PS X st t) (h2 : PSsA X c rest u) : PSsA X c (st :: rest) (tSeq t u) := by
  refine ⟨fun pins s σ H D I h => ?_⟩
  refine ks_wpAt_execs_cons (wpAt_of_wpAny (thn (h1.run pins s σ H { D with nx := u D } I h) fun f s1 q => ?_))
  cases f with
  | next =>
    obtain ⟨σ', H', I', q⟩ := q
    exact h2.run pins s1 σ' H' D I' q
  | ret v => exact q
  | brk => exact q
  | cont => exact q
/-- a def with a __class__ cell, by its body -/
theorem fn_ofA {CX : CXT} {P : Program} {w : World} {K : PySem.W.Frag} {mg : Str → Option Value} {base : Heap} {k : Nat} {f C cc cda : Addr} {name qual : Str} {N ps : List Str} {params : Arguments} {body : List Stmt} {scope : Scope} {dV kV doc pm ct oc cl : Value} {an od cld : Option Addr} {osl csl : Array (Option Value)} {sp : Sp}
    (lk : K.lookup f = some ⟨oc, od, .func (ksFn name qual params body scope dV kV doc pm an (.ref cda) ct cc), osl⟩) (hcd : codeIn K (.ref cda) qual = true) (S : ScO N ps scope) (hc : K.lookup cc = some ⟨cl, cld, .cell (some (.ref C)), csl⟩)
    (len : ∀ vs H Q E, sp vs H Q E → vs.length = ps.length)
    (hrun : ∀ (A : Around) (outer : List Env) (s : Shared) (H : Hp) (vs : List V) (Q : VK) (E : XK), Room k (A.deeper (ksEnv qual scope s.heap.objs.size f (.ref cda) cc)) → sp vs H Q E →
      ∃ t : TS, PSsA (cxS CX P w K mg base N qual scope f (.ref cda) cc A outer s H E) (.func body (ksEnv qual scope s.heap.objs.size f (.ref cda) cc)) body t ∧ t { nx := fun _ H' => Q .non H', rt := Q } (start N vs) H) :
    FnOk P w K mg base CX (k + 1) f (ksFn name qual params body scope dV kV doc pm an (.ref cda) ct cc) ps sp := by
  refine ⟨len, fun A outer s H args us vs Q E hr e0 hb r hsp => ?_⟩
  obtain ⟨t, hts, hq⟩ := hrun A outer s H vs Q E (hr.deeper _) hsp
  have KX : K.In s.heap := e0.mod.kin.keeps fun b o e => (e0.bs b o e).1
  have lim : s.heap.NoLimit := e0.mod.nolimit.keeps fun b o e => (e0.bs b o e).1
  have hl := len _ _ _ _ hsp
  refine ks_codeAny_call_defAt (fd := ksFn name qual params body scope dV kV doc pm an (.ref cda) ct cc) (binds := ps.zip us) hr.depth (KX _ _ lk) rfl lim (codeRec_of KX hcd) rfl hb S.nocell (fun y hy => S.par _ (List.of_mem_zip hy).1) (fun h1 hns hk => ?_) S.co S.gen S.kind
  have I : Inv (cxS CX P w K mg base N qual scope f (.ref cda) cc A outer s H E) [] (start N vs) H { s with heap := h1, toks := s.toks + (ps.zip us).length } := inv_startO S hr.hd e0 hl r hc hns hk
  refine ks_wpAt_mono (hts.run [] _ _ H _ I hq) (fun fl s' hs => ?_) fun e s' hs => hs
  have fin : ∀ {σ' : St} {H' : Hp} {v : V} {u : Value}, Inv (cxS CX P w K mg base N qual scope f (.ref cda) cc A outer s H E) [] σ' H' s' → RelV v u → Q v H' → CE outer P w H s Q u s' :=
    fun {σ' H' v u} J rv q => ⟨v, H', J.os, J.bare, J.base, J.hok, rv, q⟩
  cases fl with
  | ret u =>
    obtain ⟨v, σ', H', J, rv, q⟩ := hs
    exact fin J rv q
  | next =>
    obtain ⟨σ', H', J, q⟩ := hs
    exact fin (v := V.non) (u := Value.none) J rfl q
  | brk =>
    obtain ⟨_, _, _, q⟩ := hs
    exact False.elim q
  | cont =>
    obtain ⟨_, _, _, q⟩ := hs
    exact False.elim q
/-- what the written part says: D the class of the def, C the object's class, f2 what super() finds -/
structure SupO (file : Str) (K : PySem.W.Frag) (C D cc cda f2 : Addr) (m : Str) (params : Arguments) : Prop where
  cell : ∃ cl cld csl, K.lookup cc = some ⟨cl, cld, .cell (some (.ref D)), csl⟩
  code : ∃ ccl cdd vs ccs, K.lookup cda = some ⟨ccl, cdd, .fields vs, ccs⟩ ∧ ∃ tf : Tok, vs[2]? = some (.str file tf)
  hdD : hasDictIn K D = true
  hdC : hasDictIn K C = true
  mro : mroIn K C (.ref D) = some true
  sup : ks_superIn K C D m = some (some (.ref f2))
  ty : typeIn K (.ref f2) = some (.type "function")
  fi : fnIn K f2 = true
  third : nsIn K cStatics "thirdparty.any" = some none
  par : ∃ ar, (params.posonlyargs ++ params.args).head? = some ar ∧ ar.arg = "self"
theorem psa_super {CX CX2 : CXT} {P : Program} {w : World} {K : PySem.W.Frag} {mg : Str → Option Value} {base : Heap} {k : Nat} {f C D f2 cc cda : Addr} {name qual file m : Str} {N ps ps2 : List Str} {params : Arguments} {body rest : List Stmt} {scope : Scope} {dV kV doc pm ct oc : Value} {an od : Option Addr} {osl : Array (Option Value)} {sp : Sp} {fd2 : FuncData} {E2 : XK}
    {A : Around} {outer : List Env} {s0 : Shared} {H0 : Hp} {E : XK} {e : Expr} {es : List Expr} {ta : TA} {u : TS} {p0 p1 p2 p3 p4 : Pos}
    (lk : K.lookup f = some ⟨oc, od, .func (ksFn name qual params body scope dV kV doc pm an (.ref cda) ct cc), osl⟩) (S : ScO N ps scope) (T : SupO file K C D cc cda f2 m params) (hP : ((P.main.file : Str) == file) = true ∧ (P.main.scope.names.lookup ("super" : Str)).isSome = false) (hz : mg "super" = none)
    (F2 : FnOk P w K mg base CX2 k f2 fd2 ps2 sp) (hr : Room k (A.deeper (ksEnv qual scope s0.heap.objs.size f (.ref cda) cc))) (hb : Binds K fd2 ps2 []) (hx : Passes CX2 (cxS CX P w K mg base N qual scope f (.ref cda) cc A outer s0 H0 E) E2)
    (ha : PA (cxS CX P w K mg base N qual scope f (.ref cda) cc A outer s0 H0 E) (e :: es) ta) (hrest : PSsA (cxS CX P w K mg base N qual scope f (.ref cda) cc A outer s0 H0 E) (.func body (ksEnv qual scope s0.heap.objs.size f (.ref cda) cc)) rest u)
    (hat : (m == ("__class__" : Str)) = false) (pl : Env → Sem Bool) (hst : ∀ env, starEach (e :: es) env = (false, eval e env) :: starEach es env) (hpl : ∀ env, (backTo p3 (starEach es env)).any (·.1) = false)
    (hev : ∀ env, eval (.Call (.Attribute (.Call (.Name "super" p0) [] [] p1) m p2) (e :: es) [] p3) env = (do
      let ov ← attributeBase (.Call (.Name "super" p0) [] [] p1) m env (eval (.Call (.Name "super" p0) [] [] p1) env)
      standAt p2.atName
      let (f, first) ← holding [ov] (getMethod ov m (pl env))
      callWith p3 f first (backTo p3 (starEach (e :: es) env)) [])) (hsw : ∀ env : Env, swapsWith (.Call (.Attribute (.Call (.Name "super" p0) [] [] p1) m p2) (e :: es) [] p3) none p4.line env = pure false) :
    PSsA (cxS CX P w K mg base N qual scope f (.ref cda) cc A outer s0 H0 E) (.func body (ksEnv qual scope s0.heap.objs.size f (.ref cda) cc)) (.Expr (.Call (.Attribute (.Call (.Name "super" p0) [] [] p1) m p2) (e :: es) [] p3) p4 :: rest)
      (fun D' σ H => ∃ (a dx : Addr) (fs : List (Str × V)), σ[0]? = some (some (.ref a)) ∧ H a = some (.ins C dx fs) ∧ ta σ H fun vs H1 => sp (.ref a :: vs) H1 (fun _ H2 => u D' σ H2) E2) := by
  refine ⟨fun pins s σ H D' I h => ?_⟩
  obtain ⟨a, dx, fs, hσ, hae, hq⟩ := h
  obtain ⟨cl, cld, csl, hcell⟩ := T.cell
  obtain ⟨ccl, cdd, vsC, ccs, hcode, tf, hvs⟩ := T.code
  obtain ⟨ar, har, hself⟩ := T.par
  obtain ⟨cdD, hclsD, _⟩ := any_some T.hdD
  obtain ⟨cdC, hclsC, _⟩ := any_some T.hdC
  have KX1 : K.In s.heap := I.kIn
  obtain ⟨mL, hns, hloc⟩ := id I.loc
  have hLs : mL ("self" : Str) = some (.ref a) := by
    obtain ⟨u', ru, hk⟩ := hloc 0 "self" (.ref a) S.first hσ (.inl S.self)
    obtain rfl : u' = Value.ref a := ru
    rcases hk with ⟨_, e⟩ | ⟨q | q, _⟩
    · exact e
    · have q' : scope.names.lookup ("self" : Str) = some .cell := q
      rw [S.self] at q'; cases q'
    · have q' : scope.names.lookup ("self" : Str) = some .free := q
      rw [S.self] at q'; cases q'
  obtain ⟨mA, O, _, _, _, _⟩ := ins_get I.hok hae
  obtain ⟨od', J, _⟩ := O.look
  obtain ⟨oD, hD1, hD2⟩ : ∃ oD, s.heap.get? D = some oD ∧ oD.data = .cls cdD := by
    unfold clsIn at hclsD
    split at hclsD
    · rename_i c d cd' sl ho
      cases hclsD
      exact ⟨_, KX1 _ _ ho, rfl⟩
    · cases hclsD
  refine ks_wpAt_execs_cons ?_
  refine ks_wpAt_Expr_any ?_ (by simp [interactive, cxS, S.kind]) (hsw _)
  refine ks_wpAt_MethodCall ?_ (hev _)
  refine ks_wpAt_super_base (f := f) (cc := cda) (fd := ksFn name qual params body scope dV kV doc pm an (.ref cda) ct cc) S.sup S.cls hat rfl (KX1 _ _ lk) rfl har rfl (KX1 _ _ hcode) rfl hvs hP.1 hP.2 ?_
  rw [hself]
  obtain ⟨mb, hb1, hb2⟩ := I.mod.blt
  refine ks_loadName_global S.kind S.sup (loadGlobal_builtin (I.mod.glob.keeps I.bk) hz (hb1.keeps I.bk) ((hb2 _ (by decide)).trans (by first | boot_by_name | rfl | kernel_rfl)) ⟨rfl, ?_⟩)
  refine wpAny_loadName_free S.kind S.cls (List.lookup_cons_self ..) ⟨_, KX1 _ _ hcell, rfl⟩ ?_
  refine wpAny_loadName_local S.kind S.self hns hLs ?_
  refine ks_wpAny_isType_cls hD1 hD2 ⟨rfl, ?_⟩
  refine ks_wpAny_call_super hD1 hD2 J.at_ J.cls (fun c z => ?_) (looks_mroIn KX1 T.mro) (fun h2 e2 k2 => ?_)
  · have := J.no
    unfold notCls at this
    rw [z] at this
    exact Bool.noConfusion this
  have I1 := I.kept (t' := s.toks) k2
  have KX2 : K.In h2 := I1.kIn
  obtain ⟨mA2, O2, _, _, _, _⟩ := ins_get I1.hok hae
  obtain ⟨od2, J2, _⟩ := O2.look
  obtain ⟨of, hof, hofc⟩ : ∃ of, h2.get? f2 = some of ∧ of.cls = .type "function" := by
    have ht' : (K.lookup f2).map (·.cls) = some (.type "function") := T.ty
    cases z : K.lookup f2 with
    | none => rw [z] at ht'; cases ht'
    | some of => rw [z] at ht'; exact ⟨of, KX2 _ _ z, Option.some.inj ht'⟩
  have hm := T.sup
  unfold ks_superIn at hm
  rw [hclsC] at hm
  refine ks_wpAny_getMethod_super e2 (looks_opaque KX2 T.third) (l₀ := cdC.mro) (fun A Q E s k q => wpAny_bind ((looks_clsIn KX2 hclsC) A _ E s k (wpAny_pure q))) rfl KX2 hm hof hofc (ks_ne KX2 J2 hclsC) hat ?_
  have I2 := I1.kept (t' := s.toks + 1) (h' := h2.push (methodObj (.ref f2) (.ref a))) (fun b o q => Heap.get?_push_of_some _ q)
  have I3 := I2.pins_of (pins' := pins ++ [(h2.objs.size, methodObj (.ref f2) (.ref a))]) (fun p hp => by
    rcases List.mem_append.mp hp with hp | hp
    · exact I2.pin p (List.mem_append_right _ hp)
    · rw [List.mem_singleton.mp hp]
      exact ⟨Heap.get?_push_at rfl rfl, I1.hok.fresh (Nat.le_refl _), Nat.ne_of_gt I1.lt, I1.nofs (Nat.le_refl _), fun v z => by cases z⟩)
  dsimp only
  rw [hst]
  refine callWith_of (P := MethP K h2.objs.size f2 (.ref a)) (by show ((false || (backTo p3 (starEach es _)).any (·.1)) || false) = false; rw [hpl]; rfl) (keeps_M T.fi) ?_
  show wpAny _ _ (evalArgs _ true ((false, _) :: backTo _ _) []) _ _ _
  refine evalArgs_plain ?_
  have hp := ha.run p3 (pins ++ [(h2.objs.size, methodObj (.ref f2) (.ref a))]) _ σ H _ I3 hq
  rw [hst] at hp
  refine thn hp fun us s3 hu => ?_
  obtain ⟨vs, H1, I4, r4, hsp⟩ := hu
  have hpin := (I4.pin (h2.objs.size, methodObj (.ref f2) (.ref a)) (List.mem_append_right _ (List.mem_append_right _ (List.mem_singleton.mpr rfl)))).1
  refine ⟨⟨hpin, I4.kIn⟩, ?_⟩
  have r5 : Vals (V.ref a :: vs) (Value.ref a :: us) := .cons rfl r4
  have hl5 : (Value.ref a :: us ++ []).length = ps2.length := by rw [List.append_nil, ← r5.length]; exact F2.len _ _ _ _ hsp
  have hb5 := hb s3 (Value.ref a :: us) I4.kIn hl5
  rw [List.append_nil] at hb5
  refine wpAny_call (method_call hpin (codeAny_mono (F2.run _ _ s3 H1 ⟨Value.ref a :: us, []⟩ (Value.ref a :: us) (V.ref a :: vs) _ E2 hr I4.env0 hb5 r5 hsp) fun r s' hq => ?_))
  cases r with
  | error er => exact hx _ σ H1 s3 er s' I4 hq
  | ok fl =>
    cases fl with
    | ret u' =>
      obtain ⟨v, H2, I5, _, q2⟩ := I4.after hq
      have I6 := I5.pins_of (pins' := pins) fun p hp => I5.pin p (List.mem_append_right _ (List.mem_append_left _ hp))
      exact hrest.run pins s' σ H2 D' I6 q2
    | next => exact False.elim hq
    | brk => exact False.elim hq
    | cont => exact False.elim hq
end

/-! ### texts as data -/
mutual
/-- a value and its data: None, ints, texts, tuples of such -/
inductive Td (H : Hp) : V → PyData → Prop
  | non : Td H .non .none
  | int (i : Int) : Td H (.int i) (.int i)
  | str (x : Str) : PyData.strOk x = true → Td H (.str x) (.str x)
  | tup {a : Addr} {vs : List V} {ds : List PyData} : H a = some (.tup vs) → TdAll H vs ds → Td H (.ref a) (.tuple ds)
inductive TdAll (H : Hp) : List V → List PyData → Prop
  | nil : TdAll H [] []
  | cons {v : V} {vs : List V} {d : PyData} {ds : List PyData} : Td H v d → TdAll H vs ds → TdAll H (v :: vs) (d :: ds)
end
def TKeep (H H' : Hp) : Prop := ∀ b vs, H b = some (.tup vs) → H' b = some (.tup vs)
theorem TKeep.refl (H : Hp) : TKeep H H := fun _ _ h => h
theorem TKeep.trans {H H1 H2 : Hp} (x : TKeep H H1) (y : TKeep H1 H2) : TKeep H H2 := fun b vs h => y b vs (x b vs h)
theorem sameTk {H H' : Hp} (x : Same H H') : TKeep H H' := fun b vs h => x b _ h
theorem TKeep.upd {H : Hp} {a : Addr} {o : HO} {ys : List V} (h : H a = some (.lst ys)) : TKeep H (upd H a o) := fun b vs e => by
  rw [upd_ne (fun z => by rw [z, h] at e; cases e)]; exact e
mutual
theorem Td.keep {H H' : Hp} (k : TKeep H H') : ∀ {d : PyData} {v : V}, Td H v d → Td H' v d
  | _, _, .non => .non
  | _, _, .int i => .int i
  | _, _, .str x h => .str x h
  | _, _, .tup h t => .tup (k _ _ h) (TdAll.keep k t)
theorem TdAll.keep {H H' : Hp} (k : TKeep H H') : ∀ {ds : List PyData} {vs : List V}, TdAll H vs ds → TdAll H' vs ds
  | _, _, .nil => .nil
  | _, _, .cons h t => .cons (Td.keep k h) (TdAll.keep k t)
end
mutual
theorem Td.dp {K : PySem.W.Frag} {H : Hp} : ∀ {d : PyData} {v : V}, Td H v d → Dp K H v d
  | _, _, .non => .non
  | _, _, .int i => .int i
  | _, _, .str x _ => .str x
  | _, _, .tup h t => .tup (SqT.of h) (TdAll.dp t)
theorem TdAll.dp {K : PySem.W.Frag} {H : Hp} : ∀ {ds : List PyData} {vs : List V}, TdAll H vs ds → DpAll K H vs ds
  | _, _, .nil => .nil
  | _, _, .cons h t => .cons (Td.dp h) (TdAll.dp t)
end
mutual
theorem Td.lay {H : Hp} : ∀ {d : PyData} {v : V}, Td H v d → d.canLay0 = true
  | _, _, .non => rfl
  | _, _, .int i => rfl
  | _, _, .str x h => by simpa [PyData.canLay0] using h
  | _, _, .tup h t => by simpa [PyData.canLay0] using TdAll.lay t
theorem TdAll.lay {H : Hp} : ∀ {ds : List PyData} {vs : List V}, TdAll H vs ds → PyData.canLayAll0 ds = true
  | _, _, .nil => rfl
  | _, _, .cons h t => by simp [PyData.canLayAll0, Td.lay h, TdAll.lay t]
end
theorem Td.shaped {H : Hp} {d : PyData} {v : V} (h : Td H v d) (n : d.depth ≤ 64) : SeqAt.shaped d = true := by
  simp only [SeqAt.shaped, h.lay, Bool.true_and]
  exact decide_eq_true n
theorem TdAll.length {H : Hp} : ∀ {ds : List PyData} {vs : List V}, TdAll H vs ds → vs.length = ds.length
  | _, _, .nil => rfl
  | _, _, .cons _ t => congrArg (· + 1) (TdAll.length t)
theorem TdAll.get {H : Hp} : ∀ {ds : List PyData} {vs : List V}, TdAll H vs ds → ∀ {i : Nat} {v : V}, vs[i]? = some v → ∃ d, ds[i]? = some d ∧ Td H v d
  | _, _, .nil, i, v, h => by simp at h
  | _, _, .cons h t, 0, v, e => by cases e; exact ⟨_, rfl, h⟩
  | _, _, .cons h t, i + 1, v, e => TdAll.get t e
theorem TdAll.app {H : Hp} : ∀ {ds es : List PyData} {vs ws : List V}, TdAll H vs ds → TdAll H ws es → TdAll H (vs ++ ws) (ds ++ es)
  | _, _, _, _, .nil, y => y
  | _, _, _, _, .cons h t, y => .cons h (TdAll.app t y)
theorem TdAll.snoc {H : Hp} : ∀ {ds : List PyData} {vs : List V} {d : PyData}, TdAll H vs (ds ++ [d]) → ∃ (ws : List V) (v : V), vs = ws ++ [v] ∧ TdAll H ws ds ∧ Td H v d
  | [], _, _, .cons h .nil => ⟨[], _, rfl, .nil, h⟩
  | _ :: _, _, _, .cons h t => by
    obtain ⟨ws, v, e, x, y⟩ := TdAll.snoc t
    exact ⟨_ :: ws, v, by rw [e]; rfl, .cons h x, y⟩
mutual
/-- a text: ints, texts, tuples of such -/
def txt : PyData → Bool
  | .int _ | .str _ => true
  | .tuple ds => txtAll ds
  | _ => false
def txtAll : List PyData → Bool
  | [] => true
  | d :: ds => txt d && txtAll ds
end
theorem txtAll_app : ∀ ds es : List PyData, txtAll (ds ++ es) = (txtAll ds && txtAll es)
  | [], _ => by simp [txtAll]
  | d :: ds, es => by simp [txtAll, txtAll_app ds es, Bool.and_assoc]
mutual
theorem eqv_txt {H : Hp} : ∀ {d e : PyData} {v : V}, Td H v d → txt e = true → (PyData.eqv d e = true ↔ d = e)
  | .none, e, _, _, he => by cases e <;> simp_all [PyData.eqv, txt]
  | .int i, e, _, _, he => by cases e <;> simp_all [PyData.eqv, txt]
  | .str x, e, _, _, he => by cases e <;> simp_all [PyData.eqv, txt]
  | .tuple ds, e, _, h, he => by
    cases h with
    | tup _ t =>
      cases e with
      | tuple es =>
        have := eqvAll_txt t (show txtAll es = true from he)
        simpa [PyData.eqv] using this
      | int j => simp [PyData.eqv]
      | str y => simp [PyData.eqv]
      | none => simp [txt] at he
      | bool b => simp [txt] at he
      | list l => simp [txt] at he
      | dict k => simp [txt] at he
theorem eqvAll_txt {H : Hp} : ∀ {ds es : List PyData} {vs : List V}, TdAll H vs ds → txtAll es = true → (PyData.eqvAll ds es = true ↔ ds = es)
  | [], [], _, _, _ => by simp [PyData.eqvAll]
  | [], _ :: _, _, _, _ => by simp [PyData.eqvAll]
  | _ :: _, [], _, _, _ => by simp [PyData.eqvAll]
  | d :: ds, e :: es, _, .cons h t, he => by
    have he' : txt e = true ∧ txtAll es = true := by simpa [txtAll] using he
    have h1 := eqv_txt h he'.1
    have h2 := eqvAll_txt t he'.2
    simp [PyData.eqvAll, h1, h2]
end

def top (i : Nat) : Stmt := PySem.Challenge.pw_caisson_k05_talks.main.body.getD i (.Pass ⟨0, 0, 0, 0⟩)
abbrev s_apart : Stmt := top 4
abbrev s_Talk___init__ : Stmt := inClass (top 5) 0
abbrev s_Talk_request : Stmt := inClass (top 5) 1
abbrev s_Talk_has_ended : Stmt := inClass (top 5) 2
abbrev s_Talk_answer : Stmt := inClass (top 5) 3
abbrev s_Talk_following : Stmt := inClass (top 5) 4
abbrev s_ChangeTalk_following : Stmt := inClass (top 6) 1
abbrev s__law_state : Stmt := top 8
abbrev s__law_draw : Stmt := top 9
abbrev s__law_request : Stmt := top 10
abbrev s__law_value : Stmt := top 11
abbrev s__law_late : Stmt := top 12
abbrev s_law : Stmt := top 13
abbrev s_TalkError___init__ : Stmt := inClass (top 2) 0
abbrev n_apart : List Str := ["request"]
abbrev p_apart : List Str := ["request"]
theorem sc_apart : FnScope n_apart p_apart (defScope s_apart) := ⟨rfl, rfl, rfl, by decide +kernel, rfl, by decide +kernel, by decide +kernel⟩
abbrev n_Talk___init__ : List Str := ["self", "request"]
abbrev p_Talk___init__ : List Str := ["self", "request"]
theorem sc_Talk___init__ : FnScope n_Talk___init__ p_Talk___init__ (defScope s_Talk___init__) := ⟨rfl, rfl, rfl, by decide +kernel, rfl, by decide +kernel, by decide +kernel⟩
abbrev n_Talk_request : List Str := ["self"]
abbrev p_Talk_request : List Str := ["self"]
theorem sc_Talk_request : FnScope n_Talk_request p_Talk_request (defScope s_Talk_request) := ⟨rfl, rfl, rfl, by decide +kernel, rfl, by decide +kernel, by decide +kernel⟩
abbrev n_Talk_has_ended : List Str := ["self"]
abbrev p_Talk_has_ended : List Str := ["self"]
theorem sc_Talk_has_ended : FnScope n_Talk_has_ended p_Talk_has_ended (defScope s_Talk_has_ended) := ⟨rfl, rfl, rfl, by decide +kernel, rfl, by decide +kernel, by decide +kernel⟩
abbrev n_Talk_answer : List Str := ["self", "value"]
abbrev p_Talk_answer : List Str := ["self", "value"]
theorem sc_Talk_answer : FnScope n_Talk_answer p_Talk_answer (defScope s_Talk_answer) := ⟨rfl, rfl, rfl, by decide +kernel, rfl, by decide +kernel, by decide +kernel⟩
abbrev n_Talk_following : List Str := ["self", "value"]
abbrev p_Talk_following : List Str := ["self", "value"]
theorem sc_Talk_following : FnScope n_Talk_following p_Talk_following (defScope s_Talk_following) := ⟨rfl, rfl, rfl, by decide +kernel, rfl, by decide +kernel, by decide +kernel⟩
abbrev n_ChangeTalk_following : List Str := ["self", "value"]
abbrev p_ChangeTalk_following : List Str := ["self", "value"]
theorem sc_ChangeTalk_following : FnScope n_ChangeTalk_following p_ChangeTalk_following (defScope s_ChangeTalk_following) := ⟨rfl, rfl, rfl, by decide +kernel, rfl, by decide +kernel, by decide +kernel⟩
abbrev n__law_state : List Str := ["script", "seed", "cell"]
abbrev p__law_state : List Str := ["script"]
theorem sc__law_state : FnScope n__law_state p__law_state (defScope s__law_state) := ⟨rfl, rfl, rfl, by decide +kernel, rfl, by decide +kernel, by decide +kernel⟩
abbrev n__law_draw : List Str := ["state", "many", "cells", "value", "mixed"]
abbrev p__law_draw : List Str := ["state", "many"]
theorem sc__law_draw : FnScope n__law_draw p__law_draw (defScope s__law_draw) := ⟨rfl, rfl, rfl, by decide +kernel, rfl, by decide +kernel, by decide +kernel⟩
abbrev n__law_request : List Str := ["state", "kind"]
abbrev p__law_request : List Str := ["state"]
theorem sc__law_request : FnScope n__law_request p__law_request (defScope s__law_request) := ⟨rfl, rfl, rfl, by decide +kernel, rfl, by decide +kernel, by decide +kernel⟩
abbrev n__law_value : List Str := ["state"]
abbrev p__law_value : List Str := ["state"]
theorem sc__law_value : FnScope n__law_value p__law_value (defScope s__law_value) := ⟨rfl, rfl, rfl, by decide +kernel, rfl, by decide +kernel, by decide +kernel⟩
abbrev n__law_late : List Str := ["talk", "value", "e"]
abbrev p__law_late : List Str := ["talk", "value"]
theorem sc__law_late : FnScope n__law_late p__law_late (defScope s__law_late) := ⟨rfl, rfl, rfl, by decide +kernel, rfl, by decide +kernel, by decide +kernel⟩
abbrev n_law : List Str := ["script", "state", "request", "talk", "value", "ended", "other", "requests", "k", "given", "change"]
abbrev p_law : List Str := ["script"]
theorem sc_law : FnScope n_law p_law (defScope s_law) := ⟨rfl, rfl, rfl, by decide +kernel, rfl, by decide +kernel, by decide +kernel⟩
abbrev s_ChangeTalk___init__ : Stmt := inClass (top 6) 0
abbrev n_ChangeTalk___init__ : List Str := ["self", "requests", "result"]
abbrev p_ChangeTalk___init__ : List Str := ["self", "requests", "result"]
theorem sc_ChangeTalk___init__ : ScO n_ChangeTalk___init__ p_ChangeTalk___init__ (defScope s_ChangeTalk___init__) := ⟨rfl, rfl, rfl, by decide, rfl, by decide +kernel, rfl, by decide +kernel, by decide +kernel, by decide +kernel, by decide +kernel, by decide +kernel⟩
structure Txt (K : PySem.W.Frag) (mg : Str → Option Value) where
  f_apart : Addr
  d_apart : FuncData
  F_apart : Fun K "apart" "apart" s_apart f_apart d_apart
  b_apart : Binds K d_apart p_apart []
  mg_apart : mg "apart" = some (.ref f_apart)
  f_Talk___init__ : Addr
  d_Talk___init__ : FuncData
  F_Talk___init__ : Fun K "__init__" "Talk.__init__" s_Talk___init__ f_Talk___init__ d_Talk___init__
  b_Talk___init__ : Binds K d_Talk___init__ p_Talk___init__ []
  f_Talk_request : Addr
  d_Talk_request : FuncData
  F_Talk_request : Fun K "request" "Talk.request" s_Talk_request f_Talk_request d_Talk_request
  b_Talk_request : Binds K d_Talk_request p_Talk_request []
  f_Talk_has_ended : Addr
  d_Talk_has_ended : FuncData
  F_Talk_has_ended : Fun K "has_ended" "Talk.has_ended" s_Talk_has_ended f_Talk_has_ended d_Talk_has_ended
  b_Talk_has_ended : Binds K d_Talk_has_ended p_Talk_has_ended []
  f_Talk_answer : Addr
  d_Talk_answer : FuncData
  F_Talk_answer : Fun K "answer" "Talk.answer" s_Talk_answer f_Talk_answer d_Talk_answer
  b_Talk_answer : Binds K d_Talk_answer p_Talk_answer []
  f_Talk_following : Addr
  d_Talk_following : FuncData
  F_Talk_following : Fun K "following" "Talk.following" s_Talk_following f_Talk_following d_Talk_following
  b_Talk_following : Binds K d_Talk_following p_Talk_following []
  f_ChangeTalk_following : Addr
  d_ChangeTalk_following : FuncData
  F_ChangeTalk_following : Fun K "following" "ChangeTalk.following" s_ChangeTalk_following f_ChangeTalk_following d_ChangeTalk_following
  b_ChangeTalk_following : Binds K d_ChangeTalk_following p_ChangeTalk_following []
  f__law_state : Addr
  d__law_state : FuncData
  F__law_state : Fun K "_law_state" "_law_state" s__law_state f__law_state d__law_state
  b__law_state : Binds K d__law_state p__law_state []
  mg__law_state : mg "_law_state" = some (.ref f__law_state)
  f__law_draw : Addr
  d__law_draw : FuncData
  F__law_draw : Fun K "_law_draw" "_law_draw" s__law_draw f__law_draw d__law_draw
  b__law_draw : Binds K d__law_draw p__law_draw []
  mg__law_draw : mg "_law_draw" = some (.ref f__law_draw)
  f__law_request : Addr
  d__law_request : FuncData
  F__law_request : Fun K "_law_request" "_law_request" s__law_request f__law_request d__law_request
  b__law_request : Binds K d__law_request p__law_request []
  mg__law_request : mg "_law_request" = some (.ref f__law_request)
  f__law_value : Addr
  d__law_value : FuncData
  F__law_value : Fun K "_law_value" "_law_value" s__law_value f__law_value d__law_value
  b__law_value : Binds K d__law_value p__law_value []
  mg__law_value : mg "_law_value" = some (.ref f__law_value)
  f__law_late : Addr
  d__law_late : FuncData
  F__law_late : Fun K "_law_late" "_law_late" s__law_late f__law_late d__law_late
  b__law_late : Binds K d__law_late p__law_late []
  mg__law_late : mg "_law_late" = some (.ref f__law_late)
  f_law : Addr
  d_law : FuncData
  F_law : Fun K "law" "law" s_law f_law d_law
  b_law : Binds K d_law p_law []
  mg_law : mg "law" = some (.ref f_law)
  C_Talk : Addr
  mg_Talk : mg "Talk" = some (.ref C_Talk)
  cl_Talk : Cls K C_Talk
  M_Talk : Mk K C_Talk f_Talk___init__
  na_Talk_answers : NoAttr K C_Talk "answers"
  na_Talk__request : NoAttr K C_Talk "_request"
  m_Talk_request : Meth K C_Talk "request" f_Talk_request
  m_Talk_has_ended : Meth K C_Talk "has_ended" f_Talk_has_ended
  m_Talk_answer : Meth K C_Talk "answer" f_Talk_answer
  m_Talk_following : Meth K C_Talk "following" f_Talk_following
  C_ChangeTalk : Addr
  mg_ChangeTalk : mg "ChangeTalk" = some (.ref C_ChangeTalk)
  cl_ChangeTalk : Cls K C_ChangeTalk
  na_ChangeTalk_answers : NoAttr K C_ChangeTalk "answers"
  na_ChangeTalk__request : NoAttr K C_ChangeTalk "_request"
  na_ChangeTalk__requests : NoAttr K C_ChangeTalk "_requests"
  m_ChangeTalk_following : Meth K C_ChangeTalk "following" f_ChangeTalk_following
  m_ChangeTalk_answer : Meth K C_ChangeTalk "answer" f_Talk_answer
  m_ChangeTalk_has_ended : Meth K C_ChangeTalk "has_ended" f_Talk_has_ended
  m_ChangeTalk_request : Meth K C_ChangeTalk "request" f_Talk_request
  f_ChangeTalk___init__ : Addr
  d_ChangeTalk___init__ : FuncData
  cda_ChangeTalk___init__ : Addr
  cc_ChangeTalk___init__ : Addr
  file_ChangeTalk___init__ : Str
  lk_ChangeTalk___init__ : ∃ (oc : Value) (od an : Option Addr) (osl : Array (Option Value)) (kV doc pm ct : Value), d_ChangeTalk___init__ = PySem.W.ksFn "__init__" "ChangeTalk.__init__" (defArgs s_ChangeTalk___init__) (defBody s_ChangeTalk___init__) (defScope s_ChangeTalk___init__) .none kV doc pm an (.ref cda_ChangeTalk___init__) ct cc_ChangeTalk___init__ ∧ K.lookup f_ChangeTalk___init__ = some ⟨oc, od, .func d_ChangeTalk___init__, osl⟩ ∧ PySem.W.codeIn K (.ref cda_ChangeTalk___init__) "ChangeTalk.__init__" = true
  so_ChangeTalk___init___ChangeTalk : SupO file_ChangeTalk___init__ K C_ChangeTalk C_ChangeTalk cc_ChangeTalk___init__ cda_ChangeTalk___init__ f_Talk___init__ "__init__" (defArgs s_ChangeTalk___init__)
  M_ChangeTalk : Mk K C_ChangeTalk f_ChangeTalk___init__
  z_range : mg "range" = none
  z_len : mg "len" = none
  z_abs : mg "abs" = none
  z_int : mg "int" = none
  z_isinstance : mg "isinstance" = none
  z_super : mg "super" = none
  z_list : mg "list" = none
  f_TalkError : Addr
  d_TalkError : FuncData
  C_TalkError : Addr
  C_CaissonError : Addr
  file_TalkError : Str
  mg_TalkError : mg "TalkError" = some (.ref C_TalkError)
  mg_CaissonError : mg "CaissonError" = some (.ref C_CaissonError)
  S_TalkError : SupFn K C_TalkError C_CaissonError f_TalkError d_TalkError s_TalkError___init__ "TalkError.__init__" "answers" file_TalkError
/-! ### the law's own stream of numbers -/
/-- at a: the list of the numbers left (at c) and the seed -/
def StA (a c : Addr) (H : Hp) : Prop := ∃ (ns : List Int) (z : Int), a ≠ c ∧ H a = some (.lst [.ref c, .int z]) ∧ H c = some (.lst (ns.map V.int)) ∧ ns.length ≤ 63 ∧ (∀ n ∈ ns, 0 ≤ n) ∧ 0 ≤ z ∧ z < 2147483647
/-- nothing else that stood has changed -/
def Kp (a c : Addr) (H H' : Hp) : Prop := ∀ b o, b ≠ a → b ≠ c → H b = some o → H' b = some o
theorem Kp.refl {a c : Addr} (H : Hp) : Kp a c H H := fun _ _ _ _ h => h
theorem Kp.trans {a c : Addr} {H H1 H2 : Hp} (x : Kp a c H H1) (y : Kp a c H1 H2) : Kp a c H H2 := fun b o h1 h2 e => y b o h1 h2 (x b o h1 h2 e)
theorem Kp.upd1 {a c : Addr} {H H1 : Hp} {o : HO} (x : Kp a c H H1) : Kp a c H (upd H1 a o) := fun b o h1 h2 e => (upd_ne h1).trans (x b o h1 h2 e)
theorem Kp.upd2 {a c : Addr} {H H1 : Hp} {o : HO} (x : Kp a c H H1) : Kp a c H (upd H1 c o) := fun b o h1 h2 e => (upd_ne h2).trans (x b o h1 h2 e)
theorem Kp.same {a c : Addr} {H H1 : Hp} (x : Same H H1) : Kp a c H H1 := fun b o _ _ e => x b o e
theorem Same.new {H : Hp} {p : Addr} {o : HO} (h : H p = none) : Same H (upd H p o) := fun b o e => by rw [upd_ne (ne_of_none e h)]; exact e
def spState (K : PySem.W.Frag) : Sp := fun vs H Q _ => ∃ (l : Addr) (ns : List Int), vs = [.ref l] ∧ SqL K H l (ns.map V.int) ∧ ns.length ≤ 63 ∧
  ∀ (a c : Addr) (H' : Hp), H a = none → H c = none → StA a c H' → Same H H' → Q (.ref a) H'
def spDraw : Sp := fun vs H Q _ => ∃ (a c : Addr) (m : Int), vs = [.ref a, .int m] ∧ StA a c H ∧ 1 ≤ m ∧ m < 1000000 ∧
  ∀ (r : Int) (H' : Hp), 0 ≤ r → r < m → StA a c H' → Kp a c H H' → Q (.int r) H'
theorem int_at {ns : List Int} {i : Nat} {y : V} (hi : (ns.map V.int)[i]? = some y) : ∃ u, ns[i]? = some u ∧ y = V.int u := by
  rw [List.getElem?_map] at hi
  cases e : ns[i]? with
  | none => rw [e] at hi; cases hi
  | some u => rw [e] at hi; exact ⟨u, rfl, (Option.some.inj hi).symm⟩
theorem upd_eq {H : Hp} {a : Addr} {o : HO} (h : H a = some o) : upd H a o = H := by
  funext b
  by_cases e : b = a
  · rw [e, upd_same, h]
  · rw [upd_ne e]
theorem iteDT {c A B : Prop} [Decidable c] (hc : c) (h : A) : if decide c = true then A else B := by
  rw [if_pos (decide_eq_true hc)]
  exact h
theorem iteDF {c A B : Prop} [Decidable c] (hc : ¬ c) (h : B) : if decide c = true then A else B := by
  rw [if_neg (by rw [decide_eq_false hc]; decide)]
  exact h
theorem ixN_nat {n j : Nat} (h : j < n) : ixN n (j : Int) = some j := by
  unfold ixN
  rw [if_pos (by omega), if_pos (by omega)]
  simp
theorem seqIx_nat {n j : Nat} (h : j < n) : seqIndex? (j : Int) n = some j := (ixN_seq (ixN_nat h)).1
theorem StA.keep {a c : Addr} {H H' : Hp} (h : StA a c H) (k : Same H H') : StA a c H' := by
  obtain ⟨ns, z, h1, h2, h3, h4⟩ := h
  exact ⟨ns, z, h1, k _ _ h2, k _ _ h3, h4⟩
theorem StA.ne {a c : Addr} {H : Hp} (h : StA a c H) : a ≠ c := by obtain ⟨_, _, h, _⟩ := h; exact h
theorem StA.some1 {a c : Addr} {H : Hp} (h : StA a c H) : ∃ o, H a = some o := by obtain ⟨_, _, _, h, _⟩ := h; exact ⟨_, h⟩
theorem StA.some2 {a c : Addr} {H : Hp} (h : StA a c H) : ∃ o, H c = some o := by obtain ⟨_, _, _, _, h, _⟩ := h; exact ⟨_, h⟩

/-! ### talks: requests and their ends -/
/-- a request that begins with z ends a talk -/
def endB (z : Str) : Bool := inV (.str z) [V.str "done", V.str "refused"]
theorem endB_done : endB "done" = true := by decide +kernel
theorem endB_refused : endB "refused" = true := by decide +kernel
/-- a value that is no list -/
def NL (K : PySem.W.Frag) (H : Hp) (v : V) : Prop := ∃ t, TyX K H v t ∧ PySem.W.kitOne K t (.type "list") = some false
theorem Td.nl {K : PySem.W.Frag} {H : Hp} : ∀ {d : PyData} {v : V}, Td H v d → NL K H v
  | _, _, .non => ⟨_, .base .non, kit_ty (by decide +kernel)⟩
  | _, _, .int i => ⟨_, .base (.int i), kit_ty (by decide +kernel)⟩
  | _, _, .str x _ => ⟨_, .base (.str x), kit_ty (by decide +kernel)⟩
  | _, _, .tup h _ => ⟨_, .base (.tup h), kit_ty (by decide +kernel)⟩
/-- what apart gives for the request at r -/
def Apt (K : PySem.W.Frag) (H : Hp) (r : Addr) (Q : VK) : Prop := ∃ (z : Str) (us : List V), H r = some (.tup (.str z :: us)) ∧ (z ≠ "done" → Q (.ref r) H) ∧
  (z = "done" → ∃ v ws, us = v :: ws ∧ ((NL K H v ∧ Q (.ref r) H) ∨ ∃ l ys, v = .ref l ∧ H l = some (.lst ys) ∧ ys.length ≤ sizeLine ∧
    ∀ l' t, H l' = none → (upd H l' (.lst ys)) t = none → Q (.ref t) (upd (upd H l' (.lst ys)) t (.tup [.str "done", .ref l']))))
theorem Apt.of {K : PySem.W.Frag} {H : Hp} {r : Addr} {Q : VK} {z : Str} {us : List V} (h : H r = some (.tup (.str z :: us))) (n : ∀ v ws, us = v :: ws → NL K H v) (hu : z = "done" → us ≠ []) (q : Q (.ref r) H) : Apt K H r Q :=
  ⟨z, us, h, fun _ => q, fun e => match us, hu e, n with
    | [], x, _ => absurd rfl x
    | v :: ws, _, n => ⟨v, ws, rfl, .inl ⟨n v ws rfl, q⟩⟩⟩
def spApart (K : PySem.W.Frag) : Sp := fun vs H Q _ => ∃ r, vs = [.ref r] ∧ Apt K H r Q
/-- what of the text a talk's class must have -/
structure TkC (K : PySem.W.Frag) (C : Addr) : Prop where
  cl : Cls K C
  n1 : NoAttr K C "answers"
  n2 : NoAttr K C "_request"
/-- the talk at a: its fields, the number of answers, the present request -/
structure Tk (C : Addr) (H : Hp) (a dx : Addr) (fs : List (Str × V)) (n : Int) (r : Addr) : Prop where
  at_ : H a = some (.ins C dx fs)
  ans : fs.lookup ("answers" : Str) = some (.int n)
  req : fs.lookup ("_request" : Str) = some (.ref r)
  m1 : fs.lookup ("request" : Str) = none
  m2 : fs.lookup ("has_ended" : Str) = none
  m3 : fs.lookup ("answer" : Str) = none
  m4 : fs.lookup ("following" : Str) = none
  len : fs.length < 900
def spTInit (K : PySem.W.Frag) (C : Addr) : Sp := fun vs H Q _ => ∃ (a dx r : Addr), vs = [.ref a, .ref r] ∧ H a = some (.ins C dx []) ∧
  Apt K (upd H a (.ins C dx [("answers", .int 0)])) r fun v H' => ∃ dx', H' a = some (.ins C dx' [("answers", .int 0)]) ∧ Q .non (upd H' a (.ins C dx' [("answers", .int 0), ("_request", v)]))
def spReq (K : PySem.W.Frag) (C : Addr) : Sp := fun vs H Q _ => ∃ (a dx : Addr) (fs : List (Str × V)) (n : Int) (r : Addr), vs = [.ref a] ∧ Tk C H a dx fs n r ∧ Apt K H r Q
def spEnded (C : Addr) : Sp := fun vs H Q _ => ∃ (a dx : Addr) (fs : List (Str × V)) (n : Int) (r : Addr) (z : Str) (us : List V), vs = [.ref a] ∧ Tk C H a dx fs n r ∧ H r = some (.tup (.str z :: us)) ∧ ∀ H', Same H H' → Q (.bl (endB z)) H'
/-- answer, by what following does -/
def spAns (C CE : Addr) (spF : Sp) : Sp := fun vs H Q E => ∃ (a dx : Addr) (fs : List (Str × V)) (n : Int) (r : Addr) (z : Str) (us : List V) (v : V), vs = [.ref a, v] ∧ Tk C H a dx fs n r ∧ H r = some (.tup (.str z :: us)) ∧ 0 ≤ n ∧ n < 1000 ∧
  (endB z = true → ∀ d' H1, Same H H1 → H1 d' = none → E (.ref CE) (some d') (upd H1 d' (.xd [("answers", .int n)]))) ∧
  (endB z = false → ∀ H1, Same H H1 → ∀ R : VK, (∀ u H2 dx2 fs2, H2 a = some (.ins C dx2 fs2) → fs2.length < 1000 → Q .non (upd H2 a (.ins C dx2 (putF "_request" u fs2))) → R u H2) →
    ∀ E2, spF [.ref a, v] (upd H1 a (.ins C dx (putF "answers" (.int (n + 1)) fs))) R E2)
theorem length_putF_le {f : Str} {v : V} {fs : List (Str × V)} : (putF f v fs).length ≤ fs.length + 1 := by
  have := length_putF f v fs
  omega
def spFolT : Sp := fun vs H Q _ => ∃ (a : Addr) (v : V), vs = [.ref a, v] ∧ ∀ t, H t = none → Q (.ref t) (upd H t (.tup [.str "done", v]))
def FileS (P : Program) (file : Str) : Prop := ((P.main.file : Str) == file) = true ∧ (P.main.scope.names.lookup ("super" : Str)).isSome = false
section
variable {P : Program} {w : World} {K : PySem.W.Frag} {mg : Str → Option Value} {base : Heap}
theorem passFx {X : Cx} : Passes (L2.CX X.prog X.w) X (fun _ _ _ => False) := fun pins σ H s e s' I c => by
  obtain ⟨_, _, _, _, _, _, _, _, _, _, _, _, z⟩ := c
  exact z.elim
theorem ok_apart (T : Txt K mg) : FnOk P w K mg base CX0 1 T.f_apart T.d_apart p_apart (spApart K) := by
  refine T.F_apart.ok sc_apart (fun vs H Q E h => ?_) (fun cdv A outer s H vs Q E hr h => ?_)
  · obtain ⟨r, rfl, _⟩ := h
    rfl
  · obtain ⟨r, rfl, z, us, hr2, k1, k2⟩ := h
    refine ⟨_, (pss_cons (ps_if (PW.pt (pw_and (pt_cmpR op_eq (pe_ix ix_tup (pv 0) pe_int (fun _ _ => rfl)) pe_str (nomark _)) (pw_and1 (pt_val (pe_callB call_isi (by rfl) T.z_isinstance (by decide +kernel) (pa_cons (pe_ix ix_tup (pv 0) pe_int (fun _ _ => rfl)) (pa_cons (pe_bltn (v := V.ty "list") (by rfl) T.z_list (by decide +kernel) rfl) pa_nil))))))) (pss_one (ps_ret (pe_tup (pa_cons pe_str (pa_cons (pe_callTy call_list_of (by rfl) T.z_list (by decide +kernel) (pa_cons (pe_ix ix_tup (pv 0) pe_int (fun _ _ => rfl)) pa_nil)) pa_nil))))) pss_nil)
      (pss_one (ps_ret (pv 0)))), ?_⟩
    refine ⟨_, rfl, r, _, _, _, rfl, rfl, SqT.of hr2, atI_nat (j := 0) rfl, rfl, _, rfl, ?_⟩
    by_cases e : z = "done"
    · subst e
      obtain ⟨v, ws, rfl, k3⟩ := k2 rfl
      refine iteDT rfl ?_
      refine ⟨_, rfl, r, _, _, _, rfl, rfl, SqT.of hr2, atI_nat (j := 1) rfl, ?_⟩
      rcases k3 with ⟨⟨t, ty, kt⟩, q⟩ | ⟨l, ys, rfl, hl, hz, q⟩
      · refine ⟨v, _, t, _, false, rfl, .ty "list", ty, kt, ?_⟩
        exact ⟨_, rfl, iteF ⟨_, rfl, q⟩⟩
      · refine ⟨.ref l, _, .type "list", _, true, rfl, .ty "list", .base (.lst hl), kit_ty (by decide +kernel), ?_⟩
        refine ⟨_, rfl, iteT ?_⟩
        refine ⟨_, rfl, r, _, _, _, rfl, rfl, SqT.of hr2, atI_nat (j := 1) rfl, l, _, rfl, .inl (SqL.of hl), fun l' hl' => ?_⟩
        exact ⟨(by show 2 ≤ sizeLine; decide), fun t ht => q l' t hl' ht⟩
    · refine iteDF (fun x => e (by injection x)) ?_
      exact ⟨_, rfl, k1 e⟩
theorem ok_tinit (T : Txt K mg) {C : Addr} (TC : TkC K C) : FnOk P w K mg base CX0 2 T.f_Talk___init__ T.d_Talk___init__ p_Talk___init__ (spTInit K C) := by
  have G_apart : FnOk P w K mg base CX0 1 T.f_apart T.d_apart p_apart (spApart K) := ok_apart T
  refine T.F_Talk___init__.ok sc_Talk___init__ (fun vs H Q E h => ?_) (fun cdv A outer s H vs Q E hr h => ?_)
  · obtain ⟨a, dx, r, rfl, _⟩ := h
    rfl
  · obtain ⟨a, dx, r, rfl, ha, k⟩ := h
    refine ⟨_, (pss_cons (ps_fld (pv 0) pe_int rfl)
      (pss_one (ps_fld (pv 0) (pe_call G_apart (hr.mono (by decide)) rfl T.mg_apart T.F_apart.kp T.b_apart .nil pass0 (pa_cons (pv 1) pa_nil)) rfl))), ?_⟩
    refine ⟨_, rfl, a, C, dx, _, rfl, ha, TC.cl, TC.n1, (by show 0 < 1000; decide), ?_⟩
    obtain ⟨z, us, h1, h2, h3⟩ := k
    refine ⟨_, rfl, r, rfl, z, us, h1, fun e => ?_, fun e => ?_⟩
    · obtain ⟨dx', q1, q2⟩ := h2 e
      exact ⟨_, rfl, a, C, dx', _, rfl, q1, TC.cl, TC.n2, (by show 1 < 1000; decide), q2⟩
    · obtain ⟨v, ws, e1, e2⟩ := h3 e
      refine ⟨v, ws, e1, ?_⟩
      rcases e2 with ⟨x, dx', q1, q2⟩ | ⟨l, ys, x1, x2, x3, x4⟩
      · exact .inl ⟨x, _, rfl, a, C, dx', _, rfl, q1, TC.cl, TC.n2, (by show 1 < 1000; decide), q2⟩
      · refine .inr ⟨l, ys, x1, x2, x3, fun l' t y1 y2 => ?_⟩
        obtain ⟨dx', q1, q2⟩ := x4 l' t y1 y2
        exact ⟨_, rfl, a, C, dx', _, rfl, q1, TC.cl, TC.n2, (by show 1 < 1000; decide), q2⟩
theorem ok_req (T : Txt K mg) {C : Addr} (TC : TkC K C) : FnOk P w K mg base CX0 2 T.f_Talk_request T.d_Talk_request p_Talk_request (spReq K C) := by
  have G_apart : FnOk P w K mg base CX0 1 T.f_apart T.d_apart p_apart (spApart K) := ok_apart T
  refine T.F_Talk_request.ok sc_Talk_request (fun vs H Q E h => ?_) (fun cdv A outer s H vs Q E hr h => ?_)
  · obtain ⟨a, dx, fs, n, r, rfl, _⟩ := h
    rfl
  · obtain ⟨a, dx, fs, n, r, rfl, t, k⟩ := h
    refine ⟨_, (pss_one (ps_ret (pe_call G_apart (hr.mono (by decide)) rfl T.mg_apart T.F_apart.kp T.b_apart .nil pass0 (pa_cons (pe_fld (pv 0) rfl) pa_nil)))), ?_⟩
    exact ⟨_, rfl, a, C, dx, _, _, rfl, t.at_, TC.cl, TC.n2, t.req, r, rfl, k⟩
theorem ok_ended (T : Txt K mg) {C : Addr} (TC : TkC K C) : FnOk P w K mg base CX0 1 T.f_Talk_has_ended T.d_Talk_has_ended p_Talk_has_ended (spEnded C) := by
  refine T.F_Talk_has_ended.ok sc_Talk_has_ended (fun vs H Q E h => ?_) (fun cdv A outer s H vs Q E hr h => ?_)
  · obtain ⟨a, dx, fs, n, r, z, us, rfl, _⟩ := h
    rfl
  · obtain ⟨a, dx, fs, n, r, z, us, rfl, t, hr2, k⟩ := h
    refine ⟨_, (pss_one (ps_ret (pe_cmpR op_in_seq (pe_ix ix_tup (pe_fld (pv 0) rfl) pe_int (fun _ _ => rfl)) (pe_tup (pa_cons pe_str (pa_cons pe_str pa_nil))) (by rfl)))), ?_⟩
    refine ⟨_, rfl, a, C, dx, _, _, rfl, t.at_, TC.cl, TC.n2, t.req, r, _, _, _, rfl, rfl, SqT.of hr2, atI_nat (j := 0) rfl, ?_⟩
    refine ⟨(by show 2 ≤ sizeLine; decide), fun p hp => ?_⟩
    exact ⟨p, _, rfl, .inr (SqT.of upd_same), rfl, rfl, k _ (Same.new hp)⟩
theorem ok_folT (T : Txt K mg) : FnOk P w K mg base CX0 1 T.f_Talk_following T.d_Talk_following p_Talk_following spFolT := by
  refine T.F_Talk_following.ok sc_Talk_following (fun vs H Q E h => ?_) (fun cdv A outer s H vs Q E hr h => ?_)
  · obtain ⟨a, v, rfl, _⟩ := h
    rfl
  · obtain ⟨a, v, rfl, k⟩ := h
    refine ⟨_, (pss_one (ps_ret (pe_tup (pa_cons pe_str (pa_cons (pv 1) pa_nil))))), ?_⟩
    exact ⟨_, rfl, (by show 2 ≤ sizeLine; decide), fun t ht => k t ht⟩
theorem scS_TalkError : ScS "answers" (defScope s_TalkError___init__) := ⟨rfl, rfl, rfl, by decide, by decide +kernel, by decide +kernel, by decide +kernel, by decide +kernel, by decide +kernel, by decide +kernel⟩
def spTE (C : Addr) : Sp := fun vs H Q _ => ∃ (a : Addr) (z : Int), vs = [.ref a, .int z] ∧ 0 ≤ z ∧ z < 1000 ∧ H a = some (exo a C none) ∧ ∀ dx, H dx = none → dx ≠ a → Q .non (upd (upd H dx (exd dx [("answers", .int z)])) a (exo a C (some dx)))
theorem bTE (T : Txt K mg) : Binds K T.d_TalkError ["self", "answers"] [] := by
  obtain ⟨oc, od, an, osl, cda, cc, kV, doc, pm, ct, e, _⟩ := T.S_TalkError.ex
  rw [e]
  exact .all fun us hl => match us, hl with | [_, _], _ => rfl
theorem log_small {z : Int} (h0 : 0 ≤ z) (h1 : z < 1000) : z.natAbs.log2 < 1920 := by
  have : z.natAbs < 2 ^ 10 := by omega
  by_cases e : z.natAbs = 0
  · rw [e]; decide
  · exact Nat.lt_trans ((Nat.log2_lt e).mpr this) (by decide)
theorem ok_TE (T : Txt K mg) (hP : FileS P T.file_TalkError) : FnOk P w K mg base CX0 1 T.f_TalkError T.d_TalkError ["self", "answers"] (spTE T.C_TalkError) := by
  obtain ⟨oc, od, an, osl, cda, cc, kV, doc, pm, ct, e, lk, hcd, S⟩ := T.S_TalkError.ex
  rw [e] at lk ⊢
  refine fn_superV (C := T.C_TalkError) (x := "answers") lk hcd scS_TalkError S hP T.z_super rfl (fun vs H Q E h => ?_) (fun A outer s H vs Q E hr h => ?_) (fun _ => rfl) _ (fun _ => rfl) (fun _ => rfl)
  · obtain ⟨a, z, rfl, _⟩ := h
    rfl
  · obtain ⟨a, z, rfl, hz0, hz1, ha, k⟩ := h
    refine ⟨a, .int z, _, _, rfl, ha, pe_joined (PJ.cons pe_str (PJ.cons (pe_fmt (pv 1)) (PJ.cons pe_str PJ.nil))), pss_one (ps_ost (pv 0) (pv 1)), fun R hR => ?_⟩
    have e0 : (Str.empty ++ Str.ofString "the talk ended after ").length = (Str.ofString "the talk ended after ").length := by rw [Str.length_append]; exact Nat.zero_add _
    refine ⟨_, rfl, (by decide +kernel), _, rfl, .inr ⟨z, rfl, log_small hz0 hz1, _, rfl, ?_, _, rfl, ?_, ?_⟩⟩
    · rw [Str.length_append, e0]
      exact Nat.le_trans (Nat.add_le_add_left (PyProof.Rows.toString_length_le hz0 (by decide) (show z < 10 ^ 4 by omega)) _) (by decide)
    · rw [Str.length_append, Str.length_append, e0]
      exact Nat.le_trans (Nat.add_le_add_right (Nat.add_le_add_left (PyProof.Rows.toString_length_le hz0 (by decide) (show z < 10 ^ 4 by omega)) _) _) (by decide)
    · refine hR _ _ ha ?_
      exact ⟨_, rfl, _, rfl, a, T.C_TalkError, rfl, T.S_TalkError.ox, T.S_TalkError.na, .inl ⟨ha, fun dx h1 h2 => k dx h1 h2⟩⟩
theorem ok_ans (T : Txt K mg) (hP : FileS P T.file_TalkError) {C fF : Addr} {fdF : FuncData} {psF : List Str} {spF : Sp} (TC : TkC K C) (M_has_ended : Meth K C "has_ended" T.f_Talk_has_ended) (M_following : Meth K C "following" fF) (B_following : Binds K fdF psF [])
    {kF : Nat} (G_following : FnOk P w K mg base CX0 kF fF fdF psF spF) : FnOk P w K mg base (L2.CX P w) (kF + 3) T.f_Talk_answer T.d_Talk_answer p_Talk_answer (spAns C T.C_TalkError spF) := by
  have G_has_ended : FnOk P w K mg base CX0 1 T.f_Talk_has_ended T.d_Talk_has_ended p_Talk_has_ended (spEnded C) := ok_ended T TC
  have B_has_ended := T.b_Talk_has_ended
  have G_TalkError : FnOk P w K mg base CX0 1 T.f_TalkError T.d_TalkError ["self", "answers"] (spTE T.C_TalkError) := ok_TE T hP
  refine T.F_Talk_answer.okX sc_Talk_answer (fun vs H Q E h => ?_) (fun cdv A outer s H vs Q E hr h => ?_)
  · obtain ⟨a, dx, fs, n, r, z, us, v, rfl, _⟩ := h
    rfl
  · obtain ⟨a, dx, fs, n, r, z, us, v, rfl, t, hr2, n0, n1, k1, k2⟩ := h
    refine ⟨_, (pss_cons (ps_if (pt_val (pe_meth0 (pv 0) TC.cl M_has_ended G_has_ended (hr.mono (by omega)) B_has_ended .nil pass0)) (pss_one (ps_raise rfl (takes_of rfl rfl rfl rfl) (pmk_oex T.S_TalkError.ox T.S_TalkError.ini T.S_TalkError.ty G_TalkError (hr.mono (by omega)) (bTE T) .nil pass0 rfl T.mg_TalkError (pa_cons (pe_fld (pv 0) rfl) pa_nil)))) pss_nil)
      (pss_cons (ps_fldaug (pv 0) pe_int in_add)
      (pss_one (ps_fld (pv 0) (pe_meth (pv 0) TC.cl M_following G_following (hr.mono (by omega)) B_following .nil pass0 (pa_cons (pv 1) pa_nil)) rfl)))), ?_⟩
    refine ⟨_, rfl, a, dx, fs, rfl, t.at_, t.m2, a, dx, fs, n, r, z, us, rfl, t, hr2, fun H1 S1 => ?_⟩
    refine ⟨_, rfl, ?_⟩
    cases e : endB z with
    | true =>
      refine iteT ?_
      refine ⟨_, rfl, a, C, dx, _, _, rfl, S1 _ _ t.at_, TC.cl, TC.n1, t.ans, (by show 1 ≤ 1000; decide), fun x hx => ?_⟩
      refine ⟨x, n, rfl, n0, n1, upd_same, fun d' h1 h2 => ⟨rfl, d', _, upd_same, by rw [upd_ne h2, upd_same], ?_, ?_⟩⟩
      · rw [upd_ne h2] at h1
        exact h1
      · rw [upd_ne h2] at h1
        have eH : upd (del (upd (upd (upd H1 x (exo x T.C_TalkError none)) d' (exd d' [("answers", .int n)])) x (exo x T.C_TalkError (some d'))) x) d' (.xd [("answers", .int n)]) = upd H1 d' (.xd [("answers", .int n)]) := by
          funext y
          by_cases hy : y = d'
          · rw [hy, upd_same, upd_same]
          · rw [upd_ne hy, upd_ne hy]
            by_cases hy2 : y = x
            · rw [hy2, del_same]
              exact hx.symm
            · rw [del_ne hy2, upd_ne hy2, upd_ne hy, upd_ne hy2]
        have k3 := k1 e d' H1 S1 h1
        rw [← eH] at k3
        exact k3
    | false =>
      refine iteF ?_
      refine ⟨_, rfl, a, C, dx, fs, _, rfl, S1 _ _ t.at_, TC.cl, TC.n1, t.ans, n, 1, rfl, rfl, dx, fs, S1 _ _ t.at_, (by have := t.len; omega), ?_⟩
      refine ⟨_, rfl, a, dx, _, rfl, upd_same, by rw [lookup_putF, if_neg (by decide)]; exact t.m4, _, rfl, ?_⟩
      exact k2 e H1 S1 _ (fun u H2 dx2 fs2 q1 q2 q3 => ⟨_, rfl, a, C, dx2, fs2, rfl, q1, TC.cl, TC.n2, q2, q3⟩) _
end

/-- o.m(e, ..) where what is raised goes to a handler around -/
def tMethX (C : Addr) (m : Str) (sp : Sp) (E : St → XK) (ta : TE) (t : TA) : TE := fun σ H Q => ta σ H fun x H1 => ∃ a dx fs, x = .ref a ∧ H1 a = some (.ins C dx fs) ∧ fs.lookup m = none ∧
  t σ H1 fun vs H2 => sp (x :: vs) H2 Q (E σ)
theorem pe_methX {X : Cx} {CX : CXT} {k : Nat} {f C : Addr} {fd : FuncData} {ps : List Str} {sp : Sp} {E : St → XK} {m : Str} {pos apos : Pos} {e o : Expr} {es : List Expr} {ta : TE} {t : TA} {pl : Sem Bool} (he : PE X o ta) (c : Cls X.K C) (hm : Meth X.K C m f)
    (F : FnOk X.prog X.w X.K X.mg X.base CX k f fd ps sp) (hr : Room k X.A) (hb : Binds X.K fd ps []) (hx : ∀ σ, PassesAt CX X σ (E σ)) (ha : PA X (e :: es) t)
    (hst : starEach (e :: es) X.env = (false, eval e X.env) :: starEach es X.env := by rfl) (hpl : (backTo pos (starEach es X.env)).any (·.1) = false := by rfl)
    (ht : eval (.Call (.Attribute o m apos) (e :: es) [] pos) X.env = (do
      let ov ← eval o X.env
      standAt apos.atName
      let (f, first) ← holding [ov] (getMethod ov m pl)
      callWith pos f first (backTo pos (starEach (e :: es) X.env)) (backToKw pos (keywordEach [] X.env))) := by rfl) :
    PE X (.Call (.Attribute o m apos) (e :: es) [] pos) (tMethX C m sp E ta t) := by
  refine ⟨fun pins s σ H Q I h => ?_⟩
  refine PySem.W.methodCall_KW (pl := pl) (thn (he.run pins s σ H _ I h) fun u s1 ⟨x, H1, I1, rx, a, dx, fs, ex, ea, l, q⟩ => ?_) ht
  subst ex
  obtain rfl : u = Value.ref a := rx
  refine getmeth_ok I1 ea c hm l ?_
  refine PySem.W.callWith_K (first := [.ref a]) (h₀ := X.base) I.ok.mod.kin hm.kp (thn (ha.run pos pins s1 σ H1 _ I1 q) fun us s2 ⟨vs, H2, I2, r, q2⟩ => ⟨I2.kIn, ?_⟩) hst hpl
  exact run_fnS (us := .ref a :: us) (vs := .ref a :: vs) F hr hb (hx σ) I2 (.cons rfl r) q2

theorem ix_listK {X : Cx} {K : PySem.W.Frag} (e : X.K = K) : IxR X (rIxL K) := by
  subst e
  exact ix_list
theorem call_isEOK {X : Cx} {K : PySem.W.Frag} {a D : Addr} {cls : Value} {d : Option Addr} {oe : Obj} {pn : List (Addr × Obj)} (e : X.K = K) (C : ExcC K D) (hz : Zc cls d oe) (hf : ∃ vs, oe.data = .fields vs) : CallR (X.suite a ((a, oe) :: pn)) (.builtin "isinstance") (rIsEO K D a cls d) := by
  subst e
  exact call_isEO C hz hf

/-! ### ChangeTalk -/
def ctF (n : Int) (r L : Addr) : List (Str × V) := [("answers", .int n), ("_request", .ref r), ("_requests", .ref L)]
/-- ChangeTalk(requests, result): rs the requests; the result no list -/
def spCInit (K : PySem.W.Frag) (C : Addr) : Sp := fun vs H Q _ => ∃ (a dx l r : Addr) (z : Str) (us rs : List V) (v : V), vs = [.ref a, .ref l, v] ∧ H a = some (.ins C dx []) ∧ H l = some (.lst (.ref r :: rs)) ∧ H r = some (.tup (.str z :: us)) ∧ z ≠ "done" ∧
  (∀ H', (∀ b o, b ≠ a → H b = some o → H' b = some o) → NL K H' v) ∧ rs.length ≤ 900 ∧ (∀ dx' L t H', H L = none → (∀ b o, b ≠ a → H b = some o → H' b = some o) → H' a = some (.ins C dx' (ctF 0 r L)) → H' L = some (.lst (.ref r :: rs ++ [.ref t])) → H' t = some (.tup [.str "done", v]) → Q .non H')
def spCFol (C : Addr) : Sp := fun vs H Q _ => ∃ (a dx r L : Addr) (v u : V) (n : Nat) (rs : List V), vs = [.ref a, v] ∧ H a = some (.ins C dx (ctF n r L)) ∧ H L = some (.lst rs) ∧ rs[n]? = some u ∧ Q u H
section
variable {P : Program} {w : World} {K : PySem.W.Frag} {mg : Str → Option Value} {base : Heap}
theorem b_ChangeTalk___init__ (T : Txt K mg) : Binds K T.d_ChangeTalk___init__ p_ChangeTalk___init__ [] := by
  obtain ⟨oc, od, an, osl, kV, doc, pm, ct, e, _⟩ := T.lk_ChangeTalk___init__
  rw [e]
  exact .all fun us hl => match us, hl with | [_, _, _], _ => rfl
theorem Txt.TkT (T : Txt K mg) : TkC K T.C_Talk := ⟨T.cl_Talk, T.na_Talk_answers, T.na_Talk__request⟩
theorem Txt.TkCh (T : Txt K mg) : TkC K T.C_ChangeTalk := ⟨T.cl_ChangeTalk, T.na_ChangeTalk_answers, T.na_ChangeTalk__request⟩
theorem ok_cinit (T : Txt K mg) (hS : FileS P T.file_ChangeTalk___init__) : FnOk P w K mg base CX0 3 T.f_ChangeTalk___init__ T.d_ChangeTalk___init__ p_ChangeTalk___init__ (spCInit K T.C_ChangeTalk) := by
  have G_apart : FnOk P w K mg base CX0 1 T.f_apart T.d_apart p_apart (spApart K) := ok_apart T
  have G_tinit : FnOk P w K mg base CX0 2 T.f_Talk___init__ T.d_Talk___init__ p_Talk___init__ (spTInit K T.C_ChangeTalk) := ok_tinit T T.TkCh
  obtain ⟨oc, od, an, osl, kV, doc, pm, ct, e, lk, hcd⟩ := T.lk_ChangeTalk___init__
  obtain ⟨cl, cld, csl, hcell⟩ := T.so_ChangeTalk___init___ChangeTalk.cell
  rw [e] at lk ⊢
  refine fn_ofA (C := T.C_ChangeTalk) lk hcd sc_ChangeTalk___init__ hcell (fun vs H Q E h => ?_) (fun A outer s H vs Q E hr h => ?_)
  · obtain ⟨a, dx, l, r, z, us, rs, v, rfl, _⟩ := h
    rfl
  · obtain ⟨a, dx, l, r, z, us, rs, v, rfl, ha, hl, hr2, hz, nl, hn, k⟩ := h
    refine ⟨_, psa_super lk sc_ChangeTalk___init__ T.so_ChangeTalk___init___ChangeTalk hS T.z_super G_tinit (hr.mono (by decide)) T.b_Talk___init__ pass0 (E2 := E)
      (pa_cons (pe_ix ix_list (pv 1) pe_int (fun _ _ => rfl)) pa_nil) (psa_of (pss_one (ps_fld (pv 0) (pe_lst (StX.pa_star (pv 1) (pa_cons (pe_call G_apart (hr.mono (by decide)) rfl T.mg_apart T.F_apart.kp T.b_apart .nil pass0 (pa_cons (pe_tup (pa_cons pe_str (pa_cons (pv 2) pa_nil))) pa_nil)) pa_nil))) rfl))) (by decide) _ (fun _ => rfl) (fun _ => rfl) (fun _ => rfl) (fun _ => rfl), ?_⟩
    refine ⟨a, dx, [], rfl, ha, ?_⟩
    refine ⟨_, rfl, l, _, _, _, rfl, rfl, SqL.of hl, atI_nat (j := 0) rfl, a, dx, r, rfl, ha, ?_⟩
    have nla : l ≠ a := fun y => by rw [y, ha] at hl; cases hl
    have nra : r ≠ a := fun y => by rw [y, ha] at hr2; cases hr2
    refine ⟨z, us, by rw [upd_ne nra]; exact hr2, fun _ => ?_, fun x => absurd x hz⟩
    refine ⟨dx, upd_same, ?_⟩
    rw [upd_upd]
    have hl1 : (upd H a (.ins T.C_ChangeTalk dx [("answers", .int 0), ("_request", .ref r)])) l = some (.lst (.ref r :: rs)) := by rw [upd_ne nla]; exact hl
    refine ⟨_, rfl, l, _, rfl, .inr (SqL.of hl1), ?_⟩
    refine ⟨_, rfl, (by show 2 ≤ sizeLine; decide), fun t ht => ?_⟩
    have nta : t ≠ a := fun y => by rw [y, upd_same] at ht; cases ht
    have ht0 : H t = none := by rw [upd_ne nta] at ht; exact ht
    have S1 : Same H (upd H t (.tup [.str "done", v])) := Same.new ht0
    have nl2 : NL K (upd (upd H a (.ins T.C_ChangeTalk dx [("answers", .int 0), ("_request", .ref r)])) t (.tup [.str "done", v])) v := nl _ fun b o nb e => by rw [upd_ne (ne_of_none e ht0), upd_ne nb]; exact e
    refine ⟨t, rfl, Apt.of upd_same (fun v' ws e => by cases e; exact nl2) (fun _ e => by cases e) ?_⟩
    refine ⟨by simp [sizeLine]; omega, fun L hL => ?_⟩
    have nLt : L ≠ t := fun y => by rw [y, upd_same] at hL; cases hL
    have nLa : L ≠ a := fun y => by rw [y, upd_ne nta.symm, upd_same] at hL; cases hL
    refine ⟨_, rfl, a, T.C_ChangeTalk, dx, _, rfl, by rw [upd_ne nLa.symm, upd_ne nta.symm, upd_same], T.cl_ChangeTalk, T.na_ChangeTalk__requests, (by show 2 < 1000; decide), ?_⟩
    have hL0 : H L = none := by rw [upd_ne nLt, upd_ne nLa] at hL; exact hL
    refine k dx L t _ hL0 (fun b o nb e => ?_) upd_same (by rw [upd_ne nLa, upd_same]) (by rw [upd_ne nta, upd_ne nLt.symm, upd_same])
    rw [upd_ne nb, upd_ne (ne_of_none e hL0), upd_ne (ne_of_none e ht0), upd_ne nb]
    exact e
theorem ok_cfol (T : Txt K mg) : FnOk P w K mg base CX0 1 T.f_ChangeTalk_following T.d_ChangeTalk_following p_ChangeTalk_following (spCFol T.C_ChangeTalk) := by
  refine T.F_ChangeTalk_following.ok sc_ChangeTalk_following (fun vs H Q E h => ?_) (fun cdv A outer s H vs Q E hr h => ?_)
  · obtain ⟨a, dx, r, L, v, u, n, rs, rfl, _⟩ := h
    rfl
  · obtain ⟨a, dx, r, L, v, u, n, rs, rfl, ha, hL, hu, k⟩ := h
    refine ⟨_, (pss_one (ps_ret (pe_ix ix_list (pe_fld (pv 0) rfl) (pe_fld (pv 0) rfl) (fun _ _ => rfl)))), ?_⟩
    exact ⟨_, rfl, a, T.C_ChangeTalk, dx, _, _, rfl, ha, T.cl_ChangeTalk, T.na_ChangeTalk__requests, rfl, _, rfl, a, T.C_ChangeTalk, dx, _, _, rfl, ha, T.cl_ChangeTalk, T.na_ChangeTalk_answers, rfl, L, _, _, _, rfl, rfl, SqL.of hL, atI_nat hu, k⟩
/-! ### a late answer -/
def spLate (C : Addr) : Sp := fun vs H Q _ => ∃ (a dx : Addr) (fs : List (Str × V)) (n : Int) (r : Addr) (z : Str) (us : List V) (v : V), vs = [.ref a, v] ∧ Tk C H a dx fs n r ∧ H r = some (.tup (.str z :: us)) ∧ 0 ≤ n ∧ n < 1000 ∧ endB z = true ∧ ∀ H', Same H H' → Q (.int n) H'
theorem ok_late (T : Txt K mg) (hP : FileS P T.file_TalkError) {C fF : Addr} {fdF : FuncData} {psF : List Str} {spF : Sp} (TC : TkC K C) (M_answer : Meth K C "answer" T.f_Talk_answer) (M_has_ended : Meth K C "has_ended" T.f_Talk_has_ended) (M_following : Meth K C "following" fF) (B_following : Binds K fdF psF [])
    {kF : Nat} (G_following : FnOk P w K mg base CX0 kF fF fdF psF spF) : FnOk P w K mg base CX0 (kF + 4) T.f__law_late T.d__law_late p__law_late (spLate C) := by
  have G_answer : FnOk P w K mg base (L2.CX P w) (kF + 3) T.f_Talk_answer T.d_Talk_answer p_Talk_answer (spAns C T.C_TalkError spF) := ok_ans T hP TC M_has_ended M_following B_following G_following
  refine T.F__law_late.ok sc__law_late (fun vs H Q E h => ?_) (fun cdv A outer s H vs Q E hr h => ?_)
  · obtain ⟨a, dx, fs, n, r, z, us, v, rfl, _⟩ := h
    rfl
  · obtain ⟨a, dx, fs, n, r, z, us, v, rfl, t, hr2, n0, n1, e, k⟩ := h
    refine ⟨_, (pss_cons (ps_try_as rfl rfl sc__law_late.nd (i := 2) rfl rfl ⟨rfl, by decide, .inl T.mg_TalkError⟩ takes0 (fun W pn xe tk po => (pss_one (ps_expr (pe_methX (E := WE W) (pv 0) TC.cl M_answer G_answer hr T.b_Talk_answer (fun σ => passAt tk σ) (pa_cons (pv 1) pa_nil)))))
      (fun a oe cls d pn hz hf => (pss_cons (ps_if (pt_not (pt_val (pe_callB (call_isEOK (K := K) rfl T.S_TalkError.exc hz hf) (by rfl) T.z_isinstance (by decide +kernel) (pa_cons (pv 2) (pa_cons (pe_glob (v := V.ref T.C_CaissonError) rfl T.mg_CaissonError rfl) pa_nil)))))
        (pss_one (ps_ret (pe_un un_neg pe_int))) pss_nil) (pss_one (ps_ret (pe_xf T.S_TalkError.xf T.S_TalkError.na hz hf (pv 2)))))))
      (pss_one (ps_ret (pe_un un_neg pe_int)))), ?_⟩
    refine ⟨_, rfl, a, dx, fs, rfl, t.at_, t.m3, _, rfl, ?_⟩
    refine ⟨a, dx, fs, n, r, z, us, v, rfl, t, hr2, n0, n1, fun _ d' H1 S1 hd' => ?_, fun x => absurd (x.symm.trans e) (by decide)⟩
    refine ⟨true, T.S_TalkError.exm, fun _ x hx => ?_, fun z => by cases z⟩
    refine ⟨_, rfl, _, _, _, _, _, rfl, rfl, rfl, upd_same, fun u h => h, T.S_TalkError.kitB, ?_⟩
    refine ⟨_, rfl, iteF ?_⟩
    exact ⟨_, rfl, rfl, rfl, _, _, _, rfl, upd_same, rfl, k _ (S1.trans (Same.new hd'))⟩
end

section
variable {P : Program} {w : World} {K : PySem.W.Frag} {mg : Str → Option Value} {base : Heap}
theorem ok_state (T : Txt K mg) : FnOk P w K mg base CX0 1 T.f__law_state T.d__law_state p__law_state (spState K) := by
  refine T.F__law_state.ok sc__law_state (fun vs H Q E h => ?_) (fun cdv A outer s H vs Q E hr h => ?_)
  · obtain ⟨l, ns, rfl, _⟩ := h
    rfl
  · obtain ⟨l, ns, rfl, hS, hlen, k⟩ := h
    refine ⟨_, (pss_cons (ps_set (i := 1) sc__law_state.nd rfl (Or.inl rfl) pe_int)
      (pss_cons (ps_for PassesOwn.never rfl (pi_list (pv 0)) (pg_name (i := 2) sc__law_state.nd rfl (Or.inl rfl)) (pss_one (ps_set (i := 1) sc__law_state.nd rfl (Or.inl rfl) (pe_op op_modN (pe_callTy call_int1 (by rfl) T.z_int (by decide +kernel) (pa_cons (pe_op op_add (pe_op op_mul (pv 1) pe_int) (pv 2)) pa_nil)) pe_int))))
      (pss_one (ps_ret (pe_lst (pa_cons (pe_lc (own := [("cell", 2)]) (g := gName 2) (tt := tYes) rfl sc__law_state.nd (pi_list (pv 0)) (blkOk_by (N := n__law_state) (sc := defScope s__law_state) (by decide +kernel)) (fun _ _ _ _ _ => (pg_name (i := 2) sc__law_state.nd rfl (Or.inl rfl))) (fun _ _ _ _ _ => pts_nil) (fun _ _ _ _ _ => (pe_callB call_abs (by rfl) T.z_abs (by decide +kernel) (pa_cons (pv 2) pa_nil)))) (pa_cons (pe_op op_add (pv 1) pe_int) pa_nil))))))), ?_⟩
    refine ⟨_, rfl, l, rfl, ⟨_, hS⟩, for_list (K := K) (a := l) (xs := ns.map V.int) (fun i σ H' => ∃ (z : Int) (v : Option V), σ = [some (.ref l), some (.int z), v] ∧ H' = H ∧ 0 ≤ z ∧ z < 1000003)
      ⟨7, none, rfl, rfl, by decide, by decide⟩ (fun i σ H' _ ⟨_, _, _, e, _⟩ => e ▸ hS) ?_ ?_⟩
    · rintro i y σ H' hi ⟨z, v, rfl, rfl, h0, h1⟩
      obtain ⟨u, _, rfl⟩ := int_at hi
      refine ⟨_, rfl, _, _, rfl, rfl, .inl ⟨by omega, by omega⟩, _, rfl, _, _, rfl, rfl, .inl ⟨_, rfl, _, _, rfl, rfl, (by show (1000003 : Int) ≠ 0; decide), ?_⟩⟩
      exact ⟨_, _, rfl, rfl, by rw [Int.fmod_eq_emod_of_nonneg _ (by decide)]; omega, by rw [Int.fmod_eq_emod_of_nonneg _ (by decide)]; omega⟩
    · rintro σ H' ⟨z, v, rfl, rfl, h0, h1⟩
      refine ⟨_, rfl, l, rfl, ⟨_, hS⟩, fun D hD => lc_list (K := K) (xs := ns.map V.int) (fun i H2 => ∃ ms : List Int, H2 = upd H' D (.lst (ms.map V.int)) ∧ ms.length = i ∧ ∀ m ∈ ms, 0 ≤ m) ⟨[], rfl, rfl, by simp⟩ ?_ ?_ ?_⟩
      · rintro i H2 _ ⟨ms, rfl, _, _⟩
        exact Same.seq (fun b o e => by rw [upd_ne (ne_of_none e hD)]; exact e) hS
      · rintro i y H2 hi ⟨ms, rfl, hl, hp⟩
        obtain ⟨u, hu, rfl⟩ := int_at hi
        have hi2 : i < ns.length := (List.getElem?_eq_some_iff.mp hu).1
        refine ⟨rfl, _, rfl, _, rfl, _, upd_same, small1000 (by rw [List.length_map]; omega), ms ++ [if u < 0 then -u else u], ?_, by simp [hl], fun m hm => ?_⟩
        · rw [upd_upd, List.map_append]; rfl
        · rcases List.mem_append.mp hm with q | q
          · exact hp m q
          · rw [List.mem_singleton.mp q]; split <;> omega
      · rintro H2 ⟨ms, rfl, hl, hp⟩
        rw [List.length_map] at hl
        refine ⟨_, rfl, _, _, rfl, rfl, (by show 2 ≤ sizeLine; decide), fun a ha => ?_⟩
        have hD2 : D ≠ a := fun e => by rw [e, upd_same] at ha; cases ha
        refine k a D _ ?_ hD ⟨ms, _, hD2.symm, upd_same, by rw [upd_ne hD2, upd_same], by omega, hp, by omega, by omega⟩ fun b o e => ?_
        · rw [upd_ne hD2.symm] at ha
          exact ha
        · rw [upd_ne (fun q => ?_), upd_ne (ne_of_none e hD)]
          · exact e
          · rw [q] at e
            rw [upd_ne hD2.symm, e] at ha
            cases ha
theorem ok_draw (T : Txt K mg) : FnOk P w K mg base CX0 1 T.f__law_draw T.d__law_draw p__law_draw spDraw := by
  refine T.F__law_draw.ok sc__law_draw (fun vs H Q E h => ?_) (fun cdv A outer s H vs Q E hr h => ?_)
  · obtain ⟨a, c, m, rfl, _⟩ := h
    rfl
  · obtain ⟨a, c, m, rfl, hS, h1, h2, k⟩ := h
    have S0 := hS
    obtain ⟨ns, z, hac, ha, hc, hl, hp, z0, z1⟩ := hS
    refine ⟨_, (pss_cons (ps_set (i := 2) sc__law_draw.nd rfl (Or.inl rfl) (pe_ix ix_list (pv 0) pe_int (fun _ _ => rfl)))
      (pss_cons (ps_while PassesOwn.never (PW.pt (pw_and (pt_cmpR op_gt (pe_callB call_len_seq (by rfl) T.z_len PySem.boot_len (pa_cons (pv 2) pa_nil)) pe_int (nomark _)) (pw_and1 (pt_cmpR op_eq (pe_ix ix_list (pv 2) pe_int (fun _ _ => rfl)) pe_int (nomark _))))) (pss_one (ps_expr (pe_bm PySem.F.plainAttrs_list PySem.F.slot_list_pop PySem.F.type_list_pop mt_popAt (pv 2) (pa_cons pe_int pa_nil)))))
      (pss_cons (ps_if (pt_cmpR op_gt (pe_callB call_len_seq (by rfl) T.z_len PySem.boot_len (pa_cons (pv 2) pa_nil)) pe_int (nomark _)) (pss_cons (ps_set (i := 3) sc__law_draw.nd rfl (Or.inl rfl) (pe_ix ix_list (pv 2) pe_int (fun _ _ => rfl)))
      (pss_cons (ps_asg (pe_op op_fdivN (pv 3) (pv 1)) (pg_sub (pv 2) pe_int set_list))
      (pss_one (ps_ret (pe_op op_modN (pe_callTy call_int1 (by rfl) T.z_int (by decide +kernel) (pa_cons (pv 3) pa_nil)) (pv 1)))))) pss_nil)
      (pss_cons (ps_set (i := 4) sc__law_draw.nd rfl (Or.inl rfl) (pe_op op_modN (pe_callTy call_int1 (by rfl) T.z_int (by decide +kernel) (pa_cons (pe_op op_add (pe_op op_mul (pe_ix ix_list (pv 0) pe_int (fun _ _ => rfl)) pe_int) pe_int) pa_nil)) pe_int))
      (pss_cons (ps_asg (pv 4) (pg_sub (pv 0) pe_int set_list))
      (pss_one (ps_ret (pe_op op_modN (pe_callTy call_int1 (by rfl) T.z_int (by decide +kernel) (pa_cons (pe_op op_fdivN (pv 4) pe_int) pa_nil)) (pv 1))))))))), ?_⟩
    refine ⟨_, rfl, a, _, _, _, rfl, rfl, SqL.of ha, rfl, ?_⟩
    have hac' : c ≠ a := fun e => hac e.symm
    have hA : ∀ o, (upd H c o) a = some (.lst [.ref c, .int z]) := fun o => by rw [upd_ne hac]; exact ha
    have fin : ∀ (xs : List Int), xs.length ≤ 63 → (∀ n ∈ xs, 0 ≤ n) → StA a c (upd H c (.lst (xs.map V.int))) := fun xs q1 q2 => ⟨xs, z, hac, hA _, upd_same, q1, q2, z0, z1⟩
    have hm : m ≠ 0 := by omega
    have hmm : m.natAbs < 1073741824 := by omega
    refine ⟨fun n σ H' => ∃ (ns' : List Int), n = ns'.length ∧ σ = [some (.ref a), some (.int m), some (.ref c), none, none] ∧ H' = upd H c (.lst (ns'.map V.int)) ∧ ns'.length ≤ 63 ∧ ∀ n ∈ ns', 0 ≤ n,
      ⟨_, ns, rfl, rfl, (upd_eq hc).symm, hl, hp⟩, ?_⟩
    rintro n0 σ H' ⟨ns', rfl, rfl, rfl, hl', hp'⟩
    refine ⟨_, rfl, c, _, rfl, .inl (SqL.of upd_same), _, _, rfl, rfl, _, rfl, ?_⟩
    cases ns' with
    | nil =>
      refine iteF ?_
      refine iteF ?_
      refine ⟨_, rfl, c, _, rfl, .inl (SqL.of upd_same), _, _, rfl, rfl, _, rfl, ?_⟩
      refine iteF ?_
      refine ⟨_, rfl, a, _, _, _, rfl, rfl, SqL.of (hA _), rfl, _, _, rfl, rfl, .inl ⟨by omega, by omega⟩, _, _, rfl, rfl, .inl ⟨_, rfl, _, _, rfl, rfl, (by show (2147483647 : Int) ≠ 0; decide), ?_⟩⟩
      have q0 : 0 ≤ Int.fmod (z * 48271 + 12345) 2147483647 := by rw [Int.fmod_eq_emod_of_nonneg _ (by decide)]; omega
      have q1 : Int.fmod (z * 48271 + 12345) 2147483647 < 2147483647 := by rw [Int.fmod_eq_emod_of_nonneg _ (by decide)]; omega
      refine ⟨_, rfl, _, rfl, a, _, _, 1, rfl, rfl, hA _, rfl, ?_⟩
      refine ⟨_, rfl, _, _, rfl, rfl, ⟨by decide, by decide⟩, .inl ⟨_, rfl, _, rfl, _, _, rfl, rfl, hm, ?_⟩⟩
      refine k _ _ (by rw [Int.fmod_eq_emod_of_nonneg _ (by omega)]; exact Int.emod_nonneg _ hm) (by rw [Int.fmod_eq_emod_of_nonneg _ (by omega)]; exact Int.emod_lt_of_pos _ (by omega))
        ⟨[], Int.fmod (z * 48271 + 12345) 2147483647, hac, upd_same, by rw [upd_ne hac', upd_same], by decide, by simp, q0, q1⟩ (Kp.refl H).upd2.upd1
    | cons n r =>
      have n0 : 0 ≤ n := hp' n List.mem_cons_self
      have len0 : (0 : Int) < (((n :: r).map V.int).length : Nat) := by simp only [List.length_map, List.length_cons]; omega
      refine iteDT len0 ?_
      refine ⟨_, rfl, c, _, _, _, rfl, rfl, SqL.of upd_same, atI_nat (j := 0) rfl, rfl, _, rfl, ?_⟩
      refine ite2 (fun e => ?_) (fun e => ?_)
      · refine ⟨_, fun _ _ h => h, ?_⟩
        refine ⟨_, rfl, .inl ⟨rfl, _, SqL.of upd_same⟩, c, _, 0, 0, _, rfl, rfl, upd_same, by decide, by decide, seqIx_nat (j := 0) (by simp), rfl, ?_⟩
        refine ⟨r.length, Nat.lt_succ_self _, r, rfl, rfl, by rw [upd_upd]; rfl, by simp only [List.length_cons] at hl'; omega, fun x hx => hp' x (List.mem_cons_of_mem _ hx)⟩
      · refine ⟨_, rfl, c, _, rfl, .inl (SqL.of upd_same), _, _, rfl, rfl, _, rfl, ?_⟩
        refine iteDT len0 ?_
        refine ⟨_, rfl, c, _, _, _, rfl, rfl, SqL.of upd_same, atI_nat (j := 0) rfl, ?_⟩
        refine ⟨_, rfl, _, rfl, _, _, rfl, rfl, ⟨hm, hmm⟩, _, rfl, c, _, _, 0, rfl, rfl, upd_same, ixN_nat (j := 0) (by simp), ?_⟩
        refine ⟨_, rfl, .inl ⟨_, rfl, _, rfl, _, _, rfl, rfl, hm, ?_⟩⟩
        refine k _ _ (by rw [Int.fmod_eq_emod_of_nonneg _ (by omega)]; exact Int.emod_nonneg _ hm) (by rw [Int.fmod_eq_emod_of_nonneg _ (by omega)]; exact Int.emod_lt_of_pos _ (by omega))
          ?_ (Kp.refl H).upd2.upd2
        rw [upd_upd]
        refine fin (n.fdiv m :: r) hl' fun x hx => ?_
        rcases List.mem_cons.mp hx with rfl | hx
        · rw [Int.fdiv_eq_ediv_of_nonneg _ (by omega)]
          exact Int.ediv_nonneg n0 (by omega)
        · exact hp' x (List.mem_cons_of_mem _ hx)

end
/-! ### the law's requests and values -/
def ReqD (d : PyData) : Prop := ∃ z ds, d = .tuple (.str z :: ds) ∧ endB z = false ∧ d.depth ≤ 5
theorem Kp.tk {a c : Addr} {H H' : Hp} (S : StA a c H) (k : Kp a c H H') : TKeep H H' := fun b vs e => by
  obtain ⟨ns, z, _, h1, h2, _⟩ := S
  exact k b _ (fun y => by rw [y, h1] at e; cases e) (fun y => by rw [y, h2] at e; cases e) e
theorem td_new {H : Hp} {a : Addr} {vs : List V} {ds : List PyData} (h : H a = none) (t : TdAll H vs ds) : Td (upd H a (.tup vs)) (.ref a) (.tuple ds) := .tup upd_same (t.keep (sameTk (Same.new h)))
def spLReq : Sp := fun vs H Q _ => ∃ (a c : Addr), vs = [.ref a] ∧ StA a c H ∧ ∀ (t : Addr) (d : PyData) (H' : Hp), Td H' (.ref t) d → ReqD d → StA a c H' → Kp a c H H' → Q (.ref t) H'
def spLVal : Sp := fun vs H Q _ => ∃ (a c : Addr), vs = [.ref a] ∧ StA a c H ∧ ∀ (v : V) (d : PyData) (H' : Hp), Td H' v d → d.depth ≤ 5 → StA a c H' → Kp a c H H' → Q v H'
section
variable {P : Program} {w : World} {K : PySem.W.Frag} {mg : Str → Option Value} {base : Heap}
theorem ok_lreq (T : Txt K mg) : FnOk P w K mg base CX0 2 T.f__law_request T.d__law_request p__law_request spLReq := by
  have G__law_draw : FnOk P w K mg base CX0 1 T.f__law_draw T.d__law_draw p__law_draw spDraw := ok_draw T
  refine T.F__law_request.ok sc__law_request (fun vs H Q E h => ?_) (fun cdv A outer s H vs Q E hr h => ?_)
  · obtain ⟨a, c, rfl, _⟩ := h
    rfl
  · obtain ⟨a, c, rfl, S0, k⟩ := h
    refine ⟨_, (pss_cons (ps_set (i := 1) sc__law_request.nd rfl (Or.inl rfl) (pe_call G__law_draw (hr.mono (by decide)) rfl T.mg__law_draw T.F__law_draw.kp T.b__law_draw .nil pass0 (pa_cons (pv 0) (pa_cons pe_int pa_nil))))
      (pss_cons (ps_if (pt_cmpR op_eq (pv 1) pe_int (nomark _)) (pss_one (ps_ret (pe_tup (pa_cons pe_str (pa_cons (pe_call G__law_draw (hr.mono (by decide)) rfl T.mg__law_draw T.F__law_draw.kp T.b__law_draw .nil pass0 (pa_cons (pv 0) (pa_cons pe_int pa_nil))) pa_nil))))) pss_nil)
      (pss_cons (ps_if (pt_cmpR op_eq (pv 1) pe_int (nomark _)) (pss_one (ps_ret (pe_tup (pa_cons pe_str (pa_cons (pe_call G__law_draw (hr.mono (by decide)) rfl T.mg__law_draw T.F__law_draw.kp T.b__law_draw .nil pass0 (pa_cons (pv 0) (pa_cons pe_int pa_nil))) (pa_cons (pe_tup (pa_cons pe_str (pa_cons (pe_call G__law_draw (hr.mono (by decide)) rfl T.mg__law_draw T.F__law_draw.kp T.b__law_draw .nil pass0 (pa_cons (pv 0) (pa_cons pe_int pa_nil))) pa_nil))) pa_nil)))))) pss_nil)
      (pss_cons (ps_if (pt_cmpR op_eq (pv 1) pe_int (nomark _)) (pss_one (ps_ret (pe_tup (pa_cons pe_str pa_nil)))) pss_nil)
      (pss_one (ps_ret (pe_tup (pa_cons pe_str (pa_cons (pe_tup (pa_cons pe_str (pa_cons (pe_call G__law_draw (hr.mono (by decide)) rfl T.mg__law_draw T.F__law_draw.kp T.b__law_draw .nil pass0 (pa_cons (pv 0) (pa_cons pe_int pa_nil))) (pa_cons (pe_tup (pa_cons (pe_tup (pa_cons pe_int (pa_cons pe_int pa_nil))) pa_nil)) pa_nil)))) pa_nil))))))))), ?_⟩
    refine ⟨_, rfl, a, c, 4, rfl, S0, by decide, by decide, fun r H1 r0 r1 S1 K1 => ?_⟩
    have d1 : ∀ x y : PyData, ReqD (.tuple [.str ("read" : Str), .int 0]) := fun _ _ => ⟨_, _, rfl, by decide +kernel, by decide +kernel⟩
    have cases4 : r = 0 ∨ r = 1 ∨ r = 2 ∨ r = 3 := by omega
    refine ⟨_, rfl, rfl, _, rfl, ?_⟩
    rcases cases4 with rfl | rfl | rfl | rfl
    · refine iteDT rfl ?_
      refine ⟨_, rfl, a, c, 99, rfl, S1, by decide, by decide, fun x H2 x0 x1 S2 K2 => ⟨(by show 2 ≤ sizeLine; decide), fun t ht => ?_⟩⟩
      exact k t _ _ (td_new ht (.cons (.str _ (by decide +kernel)) (.cons (.int x) .nil))) ⟨_, _, rfl, by decide +kernel, by simp [PyData.depth, PyData.depthAll]⟩ (S2.keep (Same.new ht)) (K1.trans (K2.trans (Kp.same (Same.new ht))))
    · refine iteDF (by decide) ?_
      refine ⟨_, rfl, rfl, _, rfl, iteDT rfl ?_⟩
      refine ⟨_, rfl, a, c, 99, rfl, S1, by decide, by decide, fun x H2 x0 x1 S2 K2 => ?_⟩
      refine ⟨_, rfl, a, c, 9, rfl, S2, by decide, by decide, fun y H3 y0 y1 S3 K3 => ?_⟩
      refine ⟨(by show 2 ≤ sizeLine; decide), fun t ht => ⟨(by show 3 ≤ sizeLine; decide), fun u hu => ?_⟩⟩
      have D1 := td_new ht (.cons (.str "leaf" (by decide +kernel)) (.cons (.int y) .nil))
      exact k u _ _ (td_new hu (.cons (.str "write" (by decide +kernel)) (.cons (.int x) (.cons D1 .nil)))) ⟨_, _, rfl, by decide +kernel, by simp [PyData.depth, PyData.depthAll]⟩ ((S3.keep (Same.new ht)).keep (Same.new hu))
        (K1.trans (K2.trans (K3.trans ((Kp.same (Same.new ht)).trans (Kp.same (Same.new hu))))))
    · refine iteDF (by decide) ?_
      refine ⟨_, rfl, rfl, _, rfl, iteDF (by decide) ?_⟩
      refine ⟨_, rfl, rfl, _, rfl, iteDT rfl ?_⟩
      refine ⟨(by show 1 ≤ sizeLine; decide), fun t ht => ?_⟩
      exact k t _ _ (td_new ht (.cons (.str "flush" (by decide +kernel)) .nil)) ⟨_, _, rfl, by decide +kernel, by simp [PyData.depth, PyData.depthAll]⟩ (S1.keep (Same.new ht)) (K1.trans (Kp.same (Same.new ht)))
    · refine iteDF (by decide) ?_
      refine ⟨_, rfl, rfl, _, rfl, iteDF (by decide) ?_⟩
      refine ⟨_, rfl, rfl, _, rfl, iteDF (by decide) ?_⟩
      refine ⟨_, rfl, a, c, 9, rfl, S1, by decide, by decide, fun x H2 x0 x1 S2 K2 => ?_⟩
      refine ⟨(by show 2 ≤ sizeLine; decide), fun t1 h1 => ⟨(by show 1 ≤ sizeLine; decide), fun t2 h2 => ⟨(by show 3 ≤ sizeLine; decide), fun t3 h3 => ⟨(by show 2 ≤ sizeLine; decide), fun t4 h4 => ?_⟩⟩⟩⟩
      have D3 := td_new h3 (.cons (.str "anchor" (by decide +kernel)) (.cons (.int x) (.cons (td_new h2 (.cons (td_new h1 (.cons (.int 0) (.cons (.int 1) .nil))) .nil)) .nil)))
      have SS := (Same.new (o := .tup [V.int 0, V.int 1]) h1).trans ((Same.new (o := .tup [V.ref t1]) h2).trans ((Same.new (o := .tup [V.str "anchor", V.int x, V.ref t2]) h3).trans (Same.new (o := .tup [V.str "anchor", V.ref t3]) h4)))
      exact k t4 _ _ (td_new h4 (.cons (.str "anchor" (by decide +kernel)) (.cons D3 .nil))) ⟨_, _, rfl, by decide +kernel, by simp [PyData.depth, PyData.depthAll]⟩ (S2.keep SS) (K1.trans (K2.trans (Kp.same SS)))
theorem TdAll.at {H : Hp} : ∀ {ds : List PyData} {vs : List V} {i : Nat} {d : PyData}, TdAll H vs ds → ds[i]? = some d → ∃ v, vs[i]? = some v ∧ Td H v d
  | _, _, i, d, .nil, h => by simp at h
  | _, _, 0, d, .cons h t, e => by cases e; exact ⟨_, rfl, h⟩
  | _, _, i + 1, d, .cons h t, e => by
    obtain ⟨v, h1, h2⟩ := TdAll.at t (i := i) (d := d) (by simpa using e)
    exact ⟨v, by simpa using h1, h2⟩
theorem ok_lval (T : Txt K mg) : FnOk P w K mg base CX0 2 T.f__law_value T.d__law_value p__law_value spLVal := by
  have G__law_draw : FnOk P w K mg base CX0 1 T.f__law_draw T.d__law_draw p__law_draw spDraw := ok_draw T
  refine T.F__law_value.ok sc__law_value (fun vs H Q E h => ?_) (fun cdv A outer s H vs Q E hr h => ?_)
  · obtain ⟨a, c, rfl, _⟩ := h
    rfl
  · obtain ⟨a, c, rfl, S0, k⟩ := h
    refine ⟨_, (pss_one (ps_ret (pe_ix ix_list (pe_lst (pa_cons pe_non (pa_cons pe_int (pa_cons pe_int (pa_cons pe_str (pa_cons (pe_tup (pa_cons pe_str (pa_cons pe_int pa_nil))) (pa_cons (pe_tup pa_nil) pa_nil))))))) (pe_call G__law_draw (hr.mono (by decide)) rfl T.mg__law_draw T.F__law_draw.kp T.b__law_draw .nil pass0 (pa_cons (pv 0) (pa_cons pe_int pa_nil))) (fun _ _ => rfl)))), ?_⟩
    refine ⟨(by show 2 ≤ sizeLine; decide), fun t1 h1 => ⟨(by show 0 ≤ sizeLine; decide), fun t2 h2 => ⟨(by show 6 ≤ sizeLine; decide), fun l hl => ?_⟩⟩⟩
    have D1 := td_new h1 (.cons (.str "leaf" (by decide +kernel)) (.cons (.int 3) .nil))
    have D2 := td_new h2 .nil
    have D0 : TdAll (upd (upd H t1 (.tup [.str "leaf", .int 3])) t2 (.tup [])) [.non, .int 0, .int 7, .str "x", .ref t1, .ref t2] [.none, .int 0, .int 7, .str "x", .tuple [.str "leaf", .int 3], .tuple []] :=
      .cons .non (.cons (.int 0) (.cons (.int 7) (.cons (.str _ (by decide +kernel)) (.cons (D1.keep (sameTk (Same.new h2))) (.cons D2 .nil)))))
    have D3 := D0.keep (sameTk (Same.new (o := .lst [V.non, V.int 0, V.int 7, V.str "x", V.ref t1, V.ref t2]) hl))
    have SS := (Same.new (o := .tup [V.str "leaf", V.int 3]) h1).trans ((Same.new (o := .tup []) h2).trans (Same.new (o := .lst [V.non, V.int 0, V.int 7, V.str "x", V.ref t1, V.ref t2]) hl))
    have S1 := S0.keep SS
    have hl1 : (upd (upd (upd H t1 (.tup [.str "leaf", .int 3])) t2 (.tup [])) l (.lst [V.non, V.int 0, V.int 7, V.str "x", V.ref t1, V.ref t2])) l = some (.lst [V.non, V.int 0, V.int 7, V.str "x", V.ref t1, V.ref t2]) := upd_same
    have na : l ≠ a := fun e => by obtain ⟨o, z⟩ := (S0.keep ((Same.new (o := .tup [V.str "leaf", V.int 3]) h1).trans (Same.new (o := .tup []) h2))).some1; rw [← e, hl] at z; cases z
    have nc : l ≠ c := fun e => by obtain ⟨o, z⟩ := (S0.keep ((Same.new (o := .tup [V.str "leaf", V.int 3]) h1).trans (Same.new (o := .tup []) h2))).some2; rw [← e, hl] at z; cases z
    generalize (upd (upd (upd H t1 (.tup [.str "leaf", .int 3])) t2 (.tup [])) l (.lst [V.non, V.int 0, V.int 7, V.str "x", V.ref t1, V.ref t2])) = H1 at *
    refine ⟨_, rfl, a, c, 6, rfl, S1, by decide, by decide, fun r H2 r0 r1 S2 K2 => ?_⟩
    obtain ⟨d, hd, dd⟩ : ∃ d : PyData, ([.none, .int 0, .int 7, .str "x", .tuple [.str "leaf", .int 3], .tuple []] : List PyData)[r.toNat]? = some d ∧ d.depth ≤ 5 := by
      have q : r = 0 ∨ r = 1 ∨ r = 2 ∨ r = 3 ∨ r = 4 ∨ r = 5 := by omega
      rcases q with rfl | rfl | rfl | rfl | rfl | rfl <;> exact ⟨_, rfl, by simp [PyData.depth, PyData.depthAll]⟩
    obtain ⟨v, hv, tv⟩ := (D3.keep (K2.tk S1)).at hd
    exact ⟨l, _, r, _, rfl, rfl, SqL.of (K2 _ _ na nc hl1), at_of (j := r.toNat) (by omega) hv, k v d H2 tv dd S2 ((Kp.same SS).trans K2)⟩
end

abbrev XL (P : Program) (w : World) (K : PySem.W.Frag) (mg : Str → Option Value) (base : Heap) (fL : Addr) (cdv : Value) (A : Around) (outer : List Env) (s : Shared) (H : Hp) (E : XK) : Cx :=
  (cxOf CX0 P w K mg base n_law "law" (defScope s_law) fL cdv A outer s H E).nox
def spLaw (K : PySem.W.Frag) : Sp := fun vs H Q _ => ∃ (a : Addr) (ns : List Int), vs = [.ref a] ∧ SqL K H a (ns.map V.int) ∧ ns.length ≤ 63 ∧ ∀ H', Q (.bl true) H'
theorem ReqD.at {K : PySem.W.Frag} {H : Hp} {v : V} {d : PyData} (h : Td H v d) (q : ReqD d) : ∃ (r : Addr) (z : Str) (us : List V), v = .ref r ∧ H r = some (.tup (.str z :: us)) ∧ endB z = false ∧ z ≠ "done" ∧ ∀ v ws, us = v :: ws → NL K H v := by
  obtain ⟨z, ds, rfl, e, _⟩ := q
  cases h with
  | tup h t =>
    cases t with
    | cons a b =>
      cases a
      refine ⟨_, z, _, rfl, h, e, fun y => ?_, fun v ws x => ?_⟩
      · rw [y, endB_done] at e
        cases e
      · subst x
        cases b with
        | cons p q => exact p.nl
theorem Td.eq {H : Hp} {v : V} {d : PyData} (h : Td H v d) : PyData.eqv d d = true := SeqAt.eqv_refl d h.lay
theorem iteNE {b : Bool} {A B : Prop} (hb : b = true) (h : B) : if (!b) = true then A else B := by
  rw [hb]
  exact iteF h
/-- a law's things that stay -/
structure Bs (H : Hp) (a c : Addr) (v : V) (dv : PyData) : Prop where
  st : StA a c H
  tv : Td H v dv
  dp : dv.depth ≤ 5
theorem doneD {H : Hp} {t : Addr} {v : V} {d : PyData} (h : H t = some (.tup [.str "done", v])) (t2 : Td H v d) : Td H (.ref t) (.tuple [.str ("done" : Str), d]) := .tup h (.cons (.str _ (by decide +kernel)) (.cons t2 .nil))
section
variable {P : Program} {w : World} {K : PySem.W.Frag} {mg : Str → Option Value} {base : Heap} {cdv : Value} {A : Around} {outer : List Env} {s0 : Shared} {H0 : Hp} {E : XK}
theorem law_C (T : Txt K mg) (hP : FileS P T.file_TalkError) (hr : Room 9 (A.deeper (PyProof.Rows.envOfC "law" (defScope s_law) s0.heap.objs.size T.f_law cdv))) :
    ∃ t, PSs (XL P w K mg base T.f_law cdv A outer s0 H0 E) ((defBody s_law).drop 13) t ∧ ∀ (D : Ends) (x0 x2 x3 x5 x6 x8 x9 : Option V) (a c lr ch dx r L t0 : Addr) (v : V) (dv : PyData) (rs : List V) (ds : List PyData) (H : Hp), Bs H a c v dv → H lr = some (.lst rs) → TdAll H rs ds → (∀ d ∈ ds, ReqD d) → rs.length ≤ 8 →
      lr ≠ a → lr ≠ c → L ≠ a → L ≠ c → H ch = some (.ins T.C_ChangeTalk dx (ctF 0 r L)) → (rs ++ [V.ref t0])[0]? = some (.ref r) → H L = some (.lst (rs ++ [.ref t0])) → H t0 = some (.tup [.str "done", v]) →
      (∀ H', D.rt (.bl true) H') → t D [x0, some (.ref a), x2, x3, some v, x5, x6, some (.ref lr), x8, x9, some (.ref ch)] H := by
  have G__law_value : FnOk P w K mg base CX0 2 T.f__law_value T.d__law_value p__law_value spLVal := ok_lval T
  have G_ChangeTalk_request : FnOk P w K mg base CX0 2 T.f_Talk_request T.d_Talk_request p_Talk_request (spReq K T.C_ChangeTalk) := ok_req T T.TkCh
  have G_ChangeTalk_has_ended : FnOk P w K mg base CX0 1 T.f_Talk_has_ended T.d_Talk_has_ended p_Talk_has_ended (spEnded T.C_ChangeTalk) := ok_ended T T.TkCh
  have G_fol : FnOk P w K mg base CX0 1 T.f_ChangeTalk_following T.d_ChangeTalk_following p_ChangeTalk_following (spCFol T.C_ChangeTalk) := ok_cfol T
  have G_ChangeTalk_answer : FnOk P w K mg base (L2.CX P w) 4 T.f_Talk_answer T.d_Talk_answer p_Talk_answer (spAns T.C_ChangeTalk T.C_TalkError (spCFol T.C_ChangeTalk)) := ok_ans T hP T.TkCh T.m_ChangeTalk_has_ended T.m_ChangeTalk_following T.b_ChangeTalk_following G_fol
  have G_lateC : FnOk P w K mg base CX0 5 T.f__law_late T.d__law_late p__law_late (spLate T.C_ChangeTalk) := ok_late T hP T.TkCh T.m_ChangeTalk_answer T.m_ChangeTalk_has_ended T.m_ChangeTalk_following T.b_ChangeTalk_following G_fol
  refine ⟨_, (pss_cons (ps_for PassesOwn.never rfl (pi_range1 rfl T.z_range (pa_cons (pe_callB call_len_seq (by rfl) T.z_len PySem.boot_len (pa_cons (pv 7) pa_nil)) pa_nil)) (pg_name (i := 8) sc_law.nd rfl (Or.inl rfl)) (pss_cons (ps_if (PW.pt (pw_or (pt_cmpR (op_neD (hr.units)) (pe_meth0 (pv 10) T.cl_ChangeTalk T.m_ChangeTalk_request G_ChangeTalk_request (hr.mono (by decide)) T.b_Talk_request .nil pass0) (pe_ix ix_list (pv 7) (pv 8) (fun _ _ => rfl)) (nomark _)) (pw_or (pt_cmpR op_notBl (pe_meth0 (pv 10) T.cl_ChangeTalk T.m_ChangeTalk_has_ended G_ChangeTalk_has_ended (hr.mono (by decide)) T.b_Talk_has_ended .nil pass0) pe_bl (nomark _)) (pw_or1 (pt_cmpR op_ne (pe_fld (pv 10) rfl) (pv 8) (nomark _)))))) (pss_one (ps_ret pe_bl)) pss_nil)
      (pss_one (ps_expr (pe_meth (pv 10) T.cl_ChangeTalk T.m_ChangeTalk_answer G_ChangeTalk_answer (hr.mono (by decide)) T.b_Talk_answer .nil passFx (pa_cons (pe_call G__law_value (hr.mono (by decide)) rfl T.mg__law_value T.F__law_value.kp T.b__law_value .nil pass0 (pa_cons (pv 1) pa_nil)) pa_nil))))))
      (pss_one (ps_ret (pe_and (pe_cmpR (op_eqD (hr.units)) (pe_meth0 (pv 10) T.cl_ChangeTalk T.m_ChangeTalk_request G_ChangeTalk_request (hr.mono (by decide)) T.b_Talk_request .nil pass0) (pe_tup (pa_cons pe_str (pa_cons (pv 4) pa_nil))) (nomark _)) (pe_one (pe_cmpR op_eq (pe_call G_lateC (hr.mono (by decide)) rfl T.mg__law_late T.F__law_late.kp T.b__law_late .nil pass0 (pa_cons (pv 10) (pa_cons pe_int pa_nil))) (pe_callB call_len_seq (by rfl) T.z_len PySem.boot_len (pa_cons (pv 7) pa_nil)) (nomark _))))))), ?_⟩
  intro D x0 x2 x3 x5 x6 x8 x9 a c lr ch dx r L t0 v dv rs ds H B hlr hrs hds hrl lra lrc La Lc hch hr0 hL ht0 k
  have hlen := hrs.length
  refine ⟨_, rfl, lr, _, rfl, .inl (SqL.of hlr), _, rfl, by omega, by omega, for_range (n := rs.length) (fun i σ H' => ∃ (x8 : Option V) (dx r : Addr), σ = [x0, some (.ref a), x2, x3, some v, x5, x6, some (.ref lr), x8, x9, some (.ref ch)] ∧ Bs H' a c v dv ∧ H' lr = some (.lst rs) ∧ TdAll H' rs ds ∧
    H' ch = some (.ins T.C_ChangeTalk dx (ctF (i : Nat) r L)) ∧ (rs ++ [V.ref t0])[i]? = some (.ref r) ∧ H' L = some (.lst (rs ++ [.ref t0])) ∧ H' t0 = some (.tup [.str "done", v])) ⟨x8, dx, r, rfl, B, hlr, hrs, hch, hr0, hL, ht0⟩ ?_ ?_⟩
  · rintro i σ H1 hi ⟨x8, dx, r, rfl, B1, hlr1, hrs1, hch1, hri, hL1, ht1⟩
    rw [show (0 : Int) + (i : Nat) = (i : Nat) from Int.zero_add _]
    have hri' : rs[i]? = some (.ref r) := by rw [List.getElem?_append_left hi] at hri; exact hri
    obtain ⟨d, hd, td⟩ := hrs1.get hri'
    have rq := hds d (List.mem_of_getElem? hd)
    obtain ⟨r', z, us, er, hz, ez, nz, nl⟩ := ReqD.at (K := K) td rq
    cases er
    have d5 : d.depth ≤ 64 := by obtain ⟨_, _, _, _, q⟩ := rq; omega
    have tk1 : Tk T.C_ChangeTalk H1 ch dx (ctF (i : Nat) r L) (i : Nat) r := ⟨hch1, rfl, rfl, rfl, rfl, rfl, rfl, by show 3 < 900; decide⟩
    refine ⟨_, rfl, ch, dx, _, rfl, hch1, rfl, ch, dx, _, _, r, rfl, tk1, Apt.of hz nl (fun y => absurd y nz) ?_⟩
    refine ⟨_, rfl, _, rfl, lr, _, _, _, rfl, rfl, SqL.of hlr1, atI_nat hri', _, _, td.dp, td.dp, td.shaped d5, td.shaped d5, _, rfl, iteNE td.eq ?_⟩
    refine ⟨_, rfl, ch, dx, _, rfl, hch1, rfl, ch, dx, _, _, r, z, us, rfl, tk1, hz, fun H2 S2 => ?_⟩
    refine ⟨false, false, by rw [ez], rfl, _, rfl, iteNS rfl ?_⟩
    refine ⟨_, rfl, ch, T.C_ChangeTalk, dx, _, _, rfl, S2 _ _ hch1, T.cl_ChangeTalk, T.na_ChangeTalk_answers, rfl, _, rfl, rfl, _, rfl, ?_⟩
    refine iteNS rfl ?_
    have B2 : Bs H2 a c v dv := ⟨B1.st.keep S2, B1.tv.keep (sameTk S2), B1.dp⟩
    have K2 := hrs1.keep (sameTk S2)
    have hch2 := S2 _ _ hch1
    have cha : ch ≠ a := fun y => by obtain ⟨ns, z, _, q1, _⟩ := B2.st; rw [y, q1] at hch2; cases hch2
    have chc : ch ≠ c := fun y => by obtain ⟨ns, z, _, _, q1, _⟩ := B2.st; rw [y, q1] at hch2; cases hch2
    refine ⟨_, rfl, ch, dx, _, rfl, hch2, rfl, _, rfl, a, c, rfl, B2.st, fun v' d' H3 td' dd' S3 K3 => ?_⟩
    have kp := K3.tk B2.st
    have hch3 := K3 _ _ cha chc hch2
    have hL3 := K3 _ _ La Lc (S2 _ _ hL1)
    have hr3 := kp _ _ ((sameTk S2) _ _ hz)
    have tk3 : Tk T.C_ChangeTalk H3 ch dx (ctF (i : Nat) r L) (i : Nat) r := ⟨hch3, rfl, rfl, rfl, rfl, rfl, rfl, by show 3 < 900; decide⟩
    refine ⟨ch, dx, _, _, r, z, us, v', rfl, tk3, hr3, by omega, by omega, fun y => absurd (y.symm.trans ez) (by decide), fun _ H4 S4 R hR E2 => ?_⟩
    obtain ⟨u, hu⟩ : ∃ u, (rs ++ [V.ref t0])[i + 1]? = some u := ⟨_, List.getElem?_eq_getElem (by rw [List.length_append, List.length_singleton]; omega)⟩
    obtain ⟨r2, rfl⟩ : ∃ r2, u = .ref r2 := by
      by_cases hl : i + 1 < rs.length
      · rw [List.getElem?_append_left hl] at hu
        obtain ⟨d2, hd2, td2⟩ := hrs1.get hu
        obtain ⟨r2, _, _, e2, _⟩ := ReqD.at (K := K) td2 (hds d2 (List.mem_of_getElem? hd2))
        exact ⟨r2, e2⟩
      · rw [List.getElem?_append_right (by omega), show i + 1 - rs.length = 0 by omega] at hu
        exact ⟨t0, (Option.some.inj hu).symm⟩
    have nLc : L ≠ ch := fun y => by rw [y, hch3] at hL3; cases hL3
    refine ⟨ch, dx, r, L, v', .ref r2, i + 1, rs ++ [.ref t0], rfl, upd_same, by rw [upd_ne nLc]; exact S4 _ _ hL3, hu, ?_⟩
    refine hR _ _ dx _ upd_same (by show 3 < 1000; decide) ?_
    rw [upd_upd]
    have KK : ∀ b o, b ≠ a → b ≠ c → b ≠ ch → H2 b = some o → (upd H4 ch (.ins T.C_ChangeTalk dx (putF "_request" (.ref r2) (putF "answers" (.int ((i : Nat) + 1)) (ctF (i : Nat) r L))))) b = some o := fun b o h1 h2 h3 e => by
      rw [upd_ne h3]
      exact S4 _ _ (K3 _ _ h1 h2 e)
    have KT : TKeep H2 (upd H4 ch (.ins T.C_ChangeTalk dx (putF "_request" (.ref r2) (putF "answers" (.int ((i : Nat) + 1)) (ctF (i : Nat) r L))))) := fun b vs e => by
      rw [upd_ne (fun y => by rw [y, hch2] at e; cases e)]
      exact S4 _ _ (kp _ _ e)
    refine ⟨some (.int (i : Nat)), dx, r2, rfl, ⟨?_, B2.tv.keep KT, B2.dp⟩, ?_, K2.keep KT, upd_same, hu, ?_, ?_⟩
    · obtain ⟨ns, z', q1, q2, q3, q4⟩ := S3
      exact ⟨ns, z', q1, by rw [upd_ne cha.symm]; exact S4 _ _ q2, by rw [upd_ne chc.symm]; exact S4 _ _ q3, q4⟩
    · exact KK _ _ lra lrc (fun y => by rw [y, hch1] at hlr1; cases hlr1) (S2 _ _ hlr1)
    · exact KK _ _ La Lc nLc (S2 _ _ hL1)
    · exact KT _ _ (S2 _ _ ht1)
  · rintro σ H1 ⟨x8, dx, r, rfl, B1, hlr1, hrs1, hch1, hri, hL1, ht1⟩
    rw [List.getElem?_append_right (Nat.le_refl _), Nat.sub_self] at hri
    obtain rfl : t0 = r := by injection (Option.some.inj hri)
    have tk1 : Tk T.C_ChangeTalk H1 ch dx (ctF (rs.length : Nat) t0 L) (rs.length : Nat) t0 := ⟨hch1, rfl, rfl, rfl, rfl, rfl, rfl, by show 3 < 900; decide⟩
    refine ⟨_, rfl, ch, dx, _, rfl, hch1, rfl, ch, dx, _, _, t0, rfl, tk1, Apt.of ht1 (fun v ws e => by cases e; exact B1.tv.nl) (fun _ e => by cases e) ?_⟩
    refine ⟨_, rfl, (by show 2 ≤ sizeLine; decide), fun p hp => ?_⟩
    have S2 : Same H1 (upd H1 p (.tup [.str "done", v])) := Same.new hp
    have D1 := doneD (S2 _ _ ht1) (B1.tv.keep (sameTk S2))
    have D2 := doneD (t := p) upd_same (B1.tv.keep (sameTk S2))
    have d5 : (PyData.tuple [.str ("done" : Str), dv]).depth ≤ 64 := by have := B1.dp; simp [PyData.depth, PyData.depthAll]; omega
    refine ⟨_, _, D1.dp, D2.dp, D1.shaped d5, D2.shaped d5, ?_⟩
    rw [D1.eq]
    refine ⟨_, rfl, iteT ?_⟩
    have tk2 : Tk T.C_ChangeTalk (upd H1 p (.tup [.str "done", v])) ch dx (ctF (rs.length : Nat) t0 L) (rs.length : Nat) t0 := ⟨S2 _ _ hch1, rfl, rfl, rfl, rfl, rfl, rfl, by show 3 < 900; decide⟩
    refine ⟨_, rfl, ch, dx, _, _, t0, _, _, _, rfl, tk2, S2 _ _ ht1, by omega, by omega, endB_done, fun H3 S3 => ?_⟩
    refine ⟨_, rfl, lr, _, rfl, .inl (SqL.of (S3 _ _ (S2 _ _ hlr1))), rfl, ?_⟩
    rw [decide_eq_true rfl]
    exact k _
end

theorem same_made {H : Hp} {p dx : Addr} (hp : H p = none) (hdx : H dx = none) (o1 o2 : HO) : Same H (upd (upd H dx o1) p o2) := fun b o e => by
  rw [upd_ne (ne_of_none e hp), upd_ne (ne_of_none e hdx)]; exact e
section
variable {P : Program} {w : World} {K : PySem.W.Frag} {mg : Str → Option Value} {base : Heap} {cdv : Value} {A : Around} {outer : List Env} {s0 : Shared} {H0 : Hp} {E : XK}
theorem law_B (T : Txt K mg) (hP : FileS P T.file_TalkError) (hS : FileS P T.file_ChangeTalk___init__) (hr : Room 9 (A.deeper (PyProof.Rows.envOfC "law" (defScope s_law) s0.heap.objs.size T.f_law cdv))) :
    ∃ t, PSs (XL P w K mg base T.f_law cdv A outer s0 H0 E) ((defBody s_law).drop 9) t ∧ ∀ (D : Ends) (x0 x2 x3 x5 x6 : Option V) (a c : Addr) (v : V) (dv : PyData) (H : Hp), Bs H a c v dv →
      (∀ H', D.rt (.bl true) H') → t D [x0, some (.ref a), x2, x3, some v, x5, x6, none, none, none, none] H := by
  obtain ⟨t13, h13, k13⟩ := law_C (E := E) (H0 := H0) (s0 := s0) (outer := outer) (base := base) (P := P) (w := w) T hP hr
  have G__law_draw : FnOk P w K mg base CX0 1 T.f__law_draw T.d__law_draw p__law_draw spDraw := ok_draw T
  have G__law_request : FnOk P w K mg base CX0 2 T.f__law_request T.d__law_request p__law_request spLReq := ok_lreq T
  have G_ChangeTalk___init__ : FnOk P w K mg base CX0 3 T.f_ChangeTalk___init__ T.d_ChangeTalk___init__ p_ChangeTalk___init__ (spCInit K T.C_ChangeTalk) := ok_cinit T hS
  refine ⟨_, (pss_cons (ps_setLc (i := 7) (own := [("k", 8)]) (g := gName 8) (tt := tYes) rfl sc_law.nd rfl rfl (sw_true rfl rfl rfl (by decide +kernel)) (pi_range1 rfl T.z_range (pa_cons (pe_op op_add pe_int (pe_call G__law_draw (hr.mono (by decide)) rfl T.mg__law_draw T.F__law_draw.kp T.b__law_draw .nil pass0 (pa_cons (pv 1) (pa_cons pe_int pa_nil)))) pa_nil)) (blkOk_by (N := n_law) (sc := defScope s_law) (by decide +kernel)) (fun _ _ _ _ _ => (pg_name (i := 8) sc_law.nd rfl (Or.inl rfl))) (fun _ _ _ _ _ => pts_nil) (fun _ _ _ _ _ => (pe_call G__law_request (hr.mono (by decide)) rfl T.mg__law_request T.F__law_request.kp T.b__law_request .nil pass0 (pa_cons (pv 1) pa_nil))))
      (pss_cons (ps_set (i := 9) sc_law.nd rfl (Or.inl rfl) (pe_callTy call_list_of (by rfl) T.z_list (by decide +kernel) (pa_cons (pv 7) pa_nil)))
      (pss_cons (ps_set (i := 10) sc_law.nd rfl (Or.inl rfl) (pe_make T.M_ChangeTalk G_ChangeTalk___init__ (hr.mono (by decide)) rfl T.mg_ChangeTalk (b_ChangeTalk___init__ T) .nil pass0 (pa_cons (pv 9) (pa_cons (pv 4) pa_nil))))
      (pss_cons (ps_expr (pe_bm PySem.F.plainAttrs_list PySem.F.slot_list_append PySem.F.type_list_append mt_append (pv 9) (pa_cons (pe_tup (pa_cons pe_str pa_nil)) pa_nil)))
      h13)))), ?_⟩
  intro D x0 x2 x3 x5 x6 a c v dv H B k
  refine ⟨_, rfl, a, c, 8, rfl, B.st, by decide, by decide, fun q H1 q0 q1 S1 K1 => ⟨_, _, rfl, rfl, _, rfl, by omega, by omega, fun L1 hL1 => ?_⟩⟩
  have B1 : Bs H1 a c v dv := ⟨S1, B.tv.keep (K1.tk B.st), B.dp⟩
  have La : L1 ≠ a := fun y => by obtain ⟨o, e⟩ := S1.some1; rw [← y, hL1] at e; cases e
  have Lc : L1 ≠ c := fun y => by obtain ⟨o, e⟩ := S1.some2; rw [← y, hL1] at e; cases e
  refine lc_range (n := (1 + q).toNat) (fun i H2 => ∃ (rs : List V) (ds : List PyData), H2 L1 = some (.lst rs) ∧ TdAll H2 rs ds ∧ (∀ d ∈ ds, ReqD d) ∧ rs.length = i ∧ Bs H2 a c v dv) ⟨[], [], upd_same, .nil, (fun d hd => by cases hd), rfl, ⟨S1.keep (Same.new hL1), B1.tv.keep (sameTk (Same.new hL1)), B1.dp⟩⟩ ?_ ?_
  · rintro i H2 hi ⟨rs, ds, h1, h2, h3, h4, B2⟩
    refine ⟨rfl, ?_⟩
    refine ⟨_, rfl, a, c, rfl, B2.st, fun t d H3 td rq S3 K3 => ?_⟩
    have h13 := K3 _ _ La Lc h1
    have kp := K3.tk B2.st
    have K4 : TKeep H3 (upd H3 L1 (.lst (rs ++ [.ref t]))) := TKeep.upd h13
    refine ⟨_, h13, small1000 (by omega), rs ++ [.ref t], ds ++ [d], upd_same, ((h2.keep kp).keep K4).app (.cons (td.keep K4) .nil), fun d' hd' => ?_, by rw [List.length_append, List.length_singleton, h4], ⟨?_, (B2.tv.keep kp).keep K4, B2.dp⟩⟩
    · rcases List.mem_append.mp hd' with z | z
      · exact h3 _ z
      · rw [List.mem_singleton.mp z]; exact rq
    · obtain ⟨ns, z', q1, q2, q3, q4⟩ := S3
      exact ⟨ns, z', q1, by rw [upd_ne La.symm]; exact q2, by rw [upd_ne Lc.symm]; exact q3, q4⟩
  · rintro H2 ⟨rs, ds, h1, h2, h3, h4, B2⟩
    refine ⟨_, rfl, L1, rs, rfl, .inl (SqL.of h1), fun l2 hl2 => ?_⟩
    obtain ⟨r0, rs', d0, ds', rfl, rfl, td0, tds⟩ : ∃ (r0 : V) (rs' : List V) (d0 : PyData) (ds' : List PyData), rs = r0 :: rs' ∧ ds = d0 :: ds' ∧ Td H2 r0 d0 ∧ TdAll H2 rs' ds' := by
      cases h2 with
      | nil => simp at h4; omega
      | cons x y => exact ⟨_, _, _, _, rfl, rfl, x, y⟩
    obtain ⟨r, z, us, rfl, hz, ez, nz, nl⟩ := ReqD.at (K := K) td0 (h3 _ List.mem_cons_self)
    refine ⟨_, rfl, _, rfl, ?_⟩
    intro p dx hp hdx nex
    have S2 : Same H2 (upd (upd (upd H2 l2 (.lst (.ref r :: rs'))) dx (.own p)) p (.ins T.C_ChangeTalk dx [])) := (Same.new hl2).trans (same_made hp hdx _ _)
    have hl2' := (same_made hp hdx (.own p) (.ins T.C_ChangeTalk dx [])) _ _ (upd_same (H := H2) (a := l2) (o := .lst (.ref r :: rs')))
    have B3 : Bs (upd (upd (upd H2 l2 (.lst (.ref r :: rs'))) dx (.own p)) p (.ins T.C_ChangeTalk dx [])) a c v dv := ⟨B2.st.keep S2, B2.tv.keep (sameTk S2), B2.dp⟩
    have hp2 : (upd (upd (upd H2 l2 (.lst (.ref r :: rs'))) dx (.own p)) p (.ins T.C_ChangeTalk dx [])) p = some (.ins T.C_ChangeTalk dx []) := upd_same
    have p0 : H2 p = none := by
      cases e : H2 p with
      | none => rfl
      | some o => rw [(Same.new hl2) _ _ e] at hp; cases hp
    have l2p : l2 ≠ p := fun y => by rw [← y, upd_same] at hp; cases hp
    generalize (upd (upd (upd H2 l2 (.lst (.ref r :: rs'))) dx (.own p)) p (.ins T.C_ChangeTalk dx [])) = H3 at *
    have len1 : (rs'.length : Nat) + 1 ≤ 8 := by have : (V.ref r :: rs').length = (1 + q).toNat := h4; simp at this; omega
    refine ⟨p, dx, l2, r, z, us, rs', v, rfl, hp2, hl2', S2 _ _ hz, nz, fun H' k' => ?_, by omega, fun dx' L t H' hLn F hp' hL ht => ⟨rfl, ?_⟩⟩
    · exact (B3.tv.keep fun b vs e => k' b _ (fun y => by rw [y, hp2] at e; cases e) e).nl
    have KT : TKeep H3 H' := fun b vs e => F b _ (fun y => by rw [y, hp2] at e; cases e) e
    have nap : a ≠ p := fun y => by obtain ⟨o, e⟩ := B2.st.some1; rw [y, p0] at e; cases e
    have ncp : c ≠ p := fun y => by obtain ⟨o, e⟩ := B2.st.some2; rw [y, p0] at e; cases e
    have n1p : L1 ≠ p := fun y => by rw [y, p0] at h1; cases h1
    have S4 : StA a c H' := by
      obtain ⟨ns, z', q1, q2, q3, q4⟩ := B3.st
      exact ⟨ns, z', q1, F _ _ nap q2, F _ _ ncp q3, q4⟩
    have hl4 := F _ _ l2p hl2'
    refine ⟨_, rfl, .inl ⟨rfl, _, SqL.of hl4⟩, (by show 1 ≤ sizeLine; decide), fun tq htq => ?_⟩
    have S5 : Same H' (upd H' tq (.tup [.str "flush"])) := Same.new htq
    refine ⟨l2, _, .ref tq, rfl, rfl, S5 _ _ hl4, small1000 (by simp; omega), ?_⟩
    have nLa : L ≠ a := fun y => by obtain ⟨o, e⟩ := B3.st.some1; rw [← y, hLn] at e; cases e
    have nLc : L ≠ c := fun y => by obtain ⟨o, e⟩ := B3.st.some2; rw [← y, hLn] at e; cases e
    have nLl : L ≠ l2 := fun y => by rw [← y, hLn] at hl2'; cases hl2'
    have l2a : l2 ≠ a := fun y => by obtain ⟨o, e⟩ := B2.st.some1; rw [← y, hl2] at e; cases e
    have l2c : l2 ≠ c := fun y => by obtain ⟨o, e⟩ := B2.st.some2; rw [← y, hl2] at e; cases e
    have n12 : L1 ≠ l2 := fun y => by rw [y, hl2] at h1; cases h1
    have FF : ∀ b o, b ≠ l2 → H' b = some o → (upd (upd H' tq (.tup [.str "flush"])) l2 (.lst (.ref r :: rs' ++ [.ref tq]))) b = some o := fun b o nb e => by rw [upd_ne nb]; exact S5 _ _ e
    have KF : TKeep H' (upd (upd H' tq (.tup [.str "flush"])) l2 (.lst (.ref r :: rs' ++ [.ref tq]))) := fun b vs e => FF b _ (fun y => by rw [y, hl4] at e; cases e) e
    have KK := (sameTk S2).trans (KT.trans KF)
    refine k13 D x0 x2 x3 x5 x6 _ _ a c L1 p dx' r L t v dv (.ref r :: rs') (d0 :: ds') _ ⟨?_, B2.tv.keep KK, B2.dp⟩ (FF _ _ n12 (F _ _ n1p (S2 _ _ h1))) (.cons (td0.keep KK) (tds.keep KK)) h3 (by simp; omega) La Lc nLa nLc (FF _ _ l2p.symm hp') rfl (FF _ _ nLl hL) (KF _ _ ht) k
    obtain ⟨ns, z', q1, q2, q3, q4⟩ := S4
    exact ⟨ns, z', q1, FF _ _ l2a.symm q2, FF _ _ l2c.symm q3, q4⟩
end

def tkF (n : Int) (r : Addr) : List (Str × V) := [("answers", .int n), ("_request", .ref r)]
theorem tk_of {C : Addr} {H : Hp} {a dx r : Addr} {n : Int} (h : H a = some (.ins C dx (tkF n r))) : Tk C H a dx (tkF n r) n r := ⟨h, rfl, rfl, rfl, rfl, rfl, rfl, by show 2 < 900; decide⟩
section
variable {P : Program} {w : World} {K : PySem.W.Frag} {mg : Str → Option Value} {base : Heap} {cdv : Value} {A : Around} {outer : List Env} {s0 : Shared} {H0 : Hp} {E : XK}
theorem law_A (T : Txt K mg) (hP : FileS P T.file_TalkError) (hS : FileS P T.file_ChangeTalk___init__) (hr : Room 9 (A.deeper (PyProof.Rows.envOfC "law" (defScope s_law) s0.heap.objs.size T.f_law cdv))) :
    ∃ t, PSs (XL P w K mg base T.f_law cdv A outer s0 H0 E) ((defBody s_law).drop 8) t ∧ ∀ (D : Ends) (x0 x2 x3 : Option V) (a c : Addr) (v : V) (dv : PyData) (H : Hp), Bs H a c v dv →
      (∀ H', D.rt (.bl true) H') → t D [x0, some (.ref a), x2, x3, some v, none, none, none, none, none, none] H := by
  obtain ⟨t9, h9, k9⟩ := law_B (E := E) (H0 := H0) (s0 := s0) (outer := outer) (base := base) (P := P) (w := w) T hP hS hr
  have G_Talk___init__ : FnOk P w K mg base CX0 2 T.f_Talk___init__ T.d_Talk___init__ p_Talk___init__ (spTInit K T.C_Talk) := ok_tinit T T.TkT
  have G_Talk_request : FnOk P w K mg base CX0 2 T.f_Talk_request T.d_Talk_request p_Talk_request (spReq K T.C_Talk) := ok_req T T.TkT
  have G_Talk_has_ended : FnOk P w K mg base CX0 1 T.f_Talk_has_ended T.d_Talk_has_ended p_Talk_has_ended (spEnded T.C_Talk) := ok_ended T T.TkT
  have G_fol : FnOk P w K mg base CX0 1 T.f_Talk_following T.d_Talk_following p_Talk_following spFolT := ok_folT T
  have G_lateT : FnOk P w K mg base CX0 5 T.f__law_late T.d__law_late p__law_late (spLate T.C_Talk) := ok_late T hP T.TkT T.m_Talk_answer T.m_Talk_has_ended T.m_Talk_following T.b_Talk_following G_fol
  refine ⟨_, (pss_cons (ps_for PassesOwn.never rfl (pi_list (pe_lst (pa_cons (pe_tup (pa_cons pe_str (pa_cons (pv 4) pa_nil))) (pa_cons (pe_tup (pa_cons pe_str (pa_cons pe_int pa_nil))) pa_nil)))) (pg_name (i := 5) sc_law.nd rfl (Or.inl rfl)) (pss_cons (ps_set (i := 6) sc_law.nd rfl (Or.inl rfl) (pe_make T.M_Talk G_Talk___init__ (hr.mono (by decide)) rfl T.mg_Talk T.b_Talk___init__ .nil pass0 (pa_cons (pv 5) pa_nil)))
      (pss_one (ps_if (PW.pt (pw_or (pt_cmpR (op_neD (hr.units)) (pe_meth0 (pv 6) T.cl_Talk T.m_Talk_request G_Talk_request (hr.mono (by decide)) T.b_Talk_request .nil pass0) (pv 5) (nomark _)) (pw_or (pt_cmpR op_notBl (pe_meth0 (pv 6) T.cl_Talk T.m_Talk_has_ended G_Talk_has_ended (hr.mono (by decide)) T.b_Talk_has_ended .nil pass0) pe_bl (nomark _)) (pw_or1 (pt_cmpR op_ne (pe_call G_lateT (hr.mono (by decide)) rfl T.mg__law_late T.F__law_late.kp T.b__law_late .nil pass0 (pa_cons (pv 6) (pa_cons pe_int pa_nil))) pe_int (nomark _)))))) (pss_one (ps_ret pe_bl)) pss_nil))))
      h9), ?_⟩
  intro D x0 x2 x3 a c v dv H B k
  refine ⟨_, rfl, (by show 2 ≤ sizeLine; decide), fun t1 h1 => ⟨(by show 2 ≤ sizeLine; decide), fun t2 h2 => ⟨(by show 2 ≤ sizeLine; decide), fun l hl => ?_⟩⟩⟩
  have SS := (Same.new (o := .tup [V.str "done", v]) h1).trans ((Same.new (o := .tup [V.str "refused", V.int 4]) h2).trans (Same.new (o := .lst [V.ref t1, V.ref t2]) hl))
  have e1 : (upd (upd (upd H t1 (.tup [.str "done", v])) t2 (.tup [.str "refused", .int 4])) l (.lst [.ref t1, .ref t2])) t1 = some (.tup [.str "done", v]) := ((Same.new h2).trans (Same.new hl)) _ _ upd_same
  have e2 : (upd (upd (upd H t1 (.tup [.str "done", v])) t2 (.tup [.str "refused", .int 4])) l (.lst [.ref t1, .ref t2])) t2 = some (.tup [.str "refused", .int 4]) := (Same.new hl) _ _ upd_same
  have e3 : (upd (upd (upd H t1 (.tup [.str "done", v])) t2 (.tup [.str "refused", .int 4])) l (.lst [.ref t1, .ref t2])) l = some (.lst [.ref t1, .ref t2]) := upd_same
  have B1 : Bs (upd (upd (upd H t1 (.tup [.str "done", v])) t2 (.tup [.str "refused", .int 4])) l (.lst [.ref t1, .ref t2])) a c v dv := ⟨B.st.keep SS, B.tv.keep (sameTk SS), B.dp⟩
  generalize (upd (upd (upd H t1 (.tup [.str "done", v])) t2 (.tup [.str "refused", .int 4])) l (.lst [.ref t1, .ref t2])) = H1 at *
  refine ⟨l, rfl, ⟨_, SqL.of e3⟩, for_list (K := K) (a := l) (xs := [.ref t1, .ref t2]) (fun i σ H' => ∃ (x5 x6 : Option V), σ = [x0, some (.ref a), x2, x3, some v, x5, x6, none, none, none, none] ∧ Same H1 H') ⟨none, none, rfl, Same.refl _⟩ ?_ ?_ ?_⟩
  · rintro i σ H2 hi ⟨x5, x6, rfl, S2⟩
    exact SqL.of (S2 _ _ e3)
  · rintro i x σ H2 hx ⟨x5, x6, rfl, S2⟩
    obtain ⟨t, z, u, dz, rfl, ht, ez, tz, dpz⟩ : ∃ (t : Addr) (z : Str) (u : V) (dz : PyData), x = .ref t ∧ H1 t = some (.tup [.str z, u]) ∧ endB z = true ∧ Td H1 (.ref t) (.tuple [.str z, dz]) ∧ dz.depth ≤ 5 := by
      match i, hx with
      | 0, hx => exact ⟨t1, "done", v, dv, (Option.some.inj hx).symm, e1, endB_done, doneD e1 B1.tv, B1.dp⟩
      | 1, hx => exact ⟨t2, "refused", .int 4, .int 4, (Option.some.inj hx).symm, e2, endB_refused, .tup e2 (.cons (.str _ (by decide +kernel)) (.cons (.int 4) .nil)), by simp [PyData.depth]⟩
      | n + 2, hx => simp at hx
    have tu : Td H1 u dz := by
      cases tz with
      | tup h q =>
        rw [ht] at h
        cases h
        cases q with
        | cons _ q => cases q with | cons q _ => exact q
    have dp2 : (PyData.tuple [.str z, dz]).depth ≤ 64 := by simp [PyData.depth, PyData.depthAll]; omega
    refine ⟨_, rfl, ?_⟩
    intro p dx hp hdx nex
    refine ⟨p, dx, t, rfl, upd_same, ?_⟩
    rw [upd_upd]
    have S3 : ∀ o, Same H1 (upd (upd H2 dx (.own p)) p o) := fun o => S2.trans (same_made hp hdx _ _)
    refine Apt.of (S3 _ _ _ ht) (fun v' ws e => by cases e; exact (tu.keep (sameTk (S3 _))).nl) (fun _ e => by cases e) ⟨dx, upd_same, rfl, ?_⟩
    rw [upd_upd]
    have S4 := S3 (.ins T.C_Talk dx (tkF 0 t))
    have hp4 : (upd (upd H2 dx (.own p)) p (.ins T.C_Talk dx (tkF 0 t))) p = some (.ins T.C_Talk dx (tkF 0 t)) := upd_same
    show tSeq _ _ _ _ (upd (upd H2 dx (.own p)) p (.ins T.C_Talk dx (tkF 0 t)))
    generalize (upd (upd H2 dx (.own p)) p (.ins T.C_Talk dx (tkF 0 t))) = H4 at *
    have tz4 := tz.keep (sameTk S4)
    refine ⟨_, rfl, p, dx, _, rfl, hp4, rfl, p, dx, _, _, t, rfl, tk_of hp4, Apt.of (S4 _ _ ht) (fun v' ws e => by cases e; exact (tu.keep (sameTk S4)).nl) (fun _ e => by cases e) ?_⟩
    refine ⟨_, rfl, _, _, tz4.dp, tz4.dp, tz4.shaped dp2, tz4.shaped dp2, _, rfl, iteNE tz4.eq ?_⟩
    refine ⟨_, rfl, p, dx, _, rfl, hp4, rfl, p, dx, _, _, t, z, _, rfl, tk_of hp4, S4 _ _ ht, fun H5 S5 => ?_⟩
    refine ⟨true, true, by rw [ez], rfl, _, rfl, iteNS rfl ?_⟩
    refine ⟨_, rfl, p, dx, _, _, t, z, _, _, rfl, tk_of (S5 _ _ hp4), S5 _ _ (S4 _ _ ht), by omega, by omega, ez, fun H6 S6 => ?_⟩
    refine ⟨rfl, _, rfl, iteNS rfl ?_⟩
    exact ⟨_, _, rfl, S4.trans (S5.trans S6)⟩
  · rintro σ H2 ⟨x5, x6, rfl, S2⟩
    refine k9 D x0 x2 x3 x5 x6 a c v dv H2 ⟨B1.st.keep S2, B1.tv.keep (sameTk S2), B1.dp⟩ k
theorem law_H (T : Txt K mg) (hP : FileS P T.file_TalkError) (hS : FileS P T.file_ChangeTalk___init__) (hr : Room 9 (A.deeper (PyProof.Rows.envOfC "law" (defScope s_law) s0.heap.objs.size T.f_law cdv))) :
    ∃ t, PSs (XL P w K mg base T.f_law cdv A outer s0 H0 E) (defBody s_law) t ∧ ∀ (D : Ends) (l0 : Addr) (ns : List Int) (H : Hp), SqL K H l0 (ns.map V.int) → ns.length ≤ 63 →
      (∀ H', D.rt (.bl true) H') → t D [some (.ref l0), none, none, none, none, none, none, none, none, none, none] H := by
  obtain ⟨t8, h8, k8⟩ := law_A (E := E) (H0 := H0) (s0 := s0) (outer := outer) (base := base) (P := P) (w := w) T hP hS hr
  have G__law_state : FnOk P w K mg base CX0 1 T.f__law_state T.d__law_state p__law_state (spState K) := ok_state T
  have G__law_request : FnOk P w K mg base CX0 2 T.f__law_request T.d__law_request p__law_request spLReq := ok_lreq T
  have G__law_value : FnOk P w K mg base CX0 2 T.f__law_value T.d__law_value p__law_value spLVal := ok_lval T
  have G_Talk___init__ : FnOk P w K mg base CX0 2 T.f_Talk___init__ T.d_Talk___init__ p_Talk___init__ (spTInit K T.C_Talk) := ok_tinit T T.TkT
  have G_Talk_request : FnOk P w K mg base CX0 2 T.f_Talk_request T.d_Talk_request p_Talk_request (spReq K T.C_Talk) := ok_req T T.TkT
  have G_Talk_has_ended : FnOk P w K mg base CX0 1 T.f_Talk_has_ended T.d_Talk_has_ended p_Talk_has_ended (spEnded T.C_Talk) := ok_ended T T.TkT
  have G_fol : FnOk P w K mg base CX0 1 T.f_Talk_following T.d_Talk_following p_Talk_following spFolT := ok_folT T
  have G_Talk_answer : FnOk P w K mg base (L2.CX P w) 4 T.f_Talk_answer T.d_Talk_answer p_Talk_answer (spAns T.C_Talk T.C_TalkError spFolT) := ok_ans T hP T.TkT T.m_Talk_has_ended T.m_Talk_following T.b_Talk_following G_fol
  have G_lateT : FnOk P w K mg base CX0 5 T.f__law_late T.d__law_late p__law_late (spLate T.C_Talk) := ok_late T hP T.TkT T.m_Talk_answer T.m_Talk_has_ended T.m_Talk_following T.b_Talk_following G_fol
  refine ⟨_, (pss_cons (ps_set (i := 1) sc_law.nd rfl (Or.inr rfl) (pe_call G__law_state (hr.mono (by decide)) rfl T.mg__law_state T.F__law_state.kp T.b__law_state .nil pass0 (pa_cons (pv 0) pa_nil)))
      (pss_cons (ps_set (i := 2) sc_law.nd rfl (Or.inl rfl) (pe_call G__law_request (hr.mono (by decide)) rfl T.mg__law_request T.F__law_request.kp T.b__law_request .nil pass0 (pa_cons (pv 1) pa_nil)))
      (pss_cons (ps_set (i := 3) sc_law.nd rfl (Or.inl rfl) (pe_make T.M_Talk G_Talk___init__ (hr.mono (by decide)) rfl T.mg_Talk T.b_Talk___init__ .nil pass0 (pa_cons (pv 2) pa_nil)))
      (pss_cons (ps_set (i := 4) sc_law.nd rfl (Or.inl rfl) (pe_call G__law_value (hr.mono (by decide)) rfl T.mg__law_value T.F__law_value.kp T.b__law_value .nil pass0 (pa_cons (pv 1) pa_nil)))
      (pss_cons (ps_if (PW.pt (pw_or (pt_cmpR (op_neD (hr.units)) (pe_meth0 (pv 3) T.cl_Talk T.m_Talk_request G_Talk_request (hr.mono (by decide)) T.b_Talk_request .nil pass0) (pv 2) (nomark _)) (pw_or (pt_cmpR op_notBl (pe_meth0 (pv 3) T.cl_Talk T.m_Talk_has_ended G_Talk_has_ended (hr.mono (by decide)) T.b_Talk_has_ended .nil pass0) pe_bl (nomark _)) (pw_or1 (pt_cmpR op_ne (pe_fld (pv 3) rfl) pe_int (nomark _)))))) (pss_one (ps_ret pe_bl)) pss_nil)
      (pss_cons (ps_expr (pe_meth (pv 3) T.cl_Talk T.m_Talk_answer G_Talk_answer (hr.mono (by decide)) T.b_Talk_answer .nil passFx (pa_cons (pv 4) pa_nil)))
      (pss_cons (ps_if (PW.pt (pw_or (pt_cmpR (op_neD (hr.units)) (pe_meth0 (pv 3) T.cl_Talk T.m_Talk_request G_Talk_request (hr.mono (by decide)) T.b_Talk_request .nil pass0) (pe_tup (pa_cons pe_str (pa_cons (pv 4) pa_nil))) (nomark _)) (pw_or (pt_cmpR op_notBl (pe_meth0 (pv 3) T.cl_Talk T.m_Talk_has_ended G_Talk_has_ended (hr.mono (by decide)) T.b_Talk_has_ended .nil pass0) pe_bl (nomark _)) (pw_or1 (pt_cmpR op_ne (pe_fld (pv 3) rfl) pe_int (nomark _)))))) (pss_one (ps_ret pe_bl)) pss_nil)
      (pss_cons (ps_if (PW.pt (pw_or (pt_cmpR op_ne (pe_call G_lateT (hr.mono (by decide)) rfl T.mg__law_late T.F__law_late.kp T.b__law_late .nil pass0 (pa_cons (pv 3) (pa_cons pe_int pa_nil))) pe_int (nomark _)) (pw_or1 (pt_cmpR (op_neD (hr.units)) (pe_meth0 (pv 3) T.cl_Talk T.m_Talk_request G_Talk_request (hr.mono (by decide)) T.b_Talk_request .nil pass0) (pe_tup (pa_cons pe_str (pa_cons (pv 4) pa_nil))) (nomark _))))) (pss_one (ps_ret pe_bl)) pss_nil)
      h8)))))))), ?_⟩
  intro D l0 ns H hl hlen k
  refine ⟨_, rfl, l0, ns, rfl, hl, hlen, fun a c H1 ha hc S1 SS1 => ?_⟩
  refine ⟨_, rfl, a, c, rfl, S1, fun rq d H2 td rqd S2 K2 => ?_⟩
  obtain ⟨r', z, us, er, hz, ez, nz, nl⟩ := ReqD.at (K := K) td rqd
  cases er
  have d5 : d.depth ≤ 64 := by obtain ⟨_, _, _, _, q⟩ := rqd; omega
  refine ⟨_, rfl, ?_⟩
  intro p dx hp hdx nex
  refine ⟨p, dx, rq, rfl, upd_same, ?_⟩
  rw [upd_upd]
  have S3 : ∀ o, Same H2 (upd (upd H2 dx (.own p)) p o) := fun o => same_made hp hdx _ _
  have nlk : ∀ H', TKeep H2 H' → ∀ v ws, us = v :: ws → NL K H' v := fun H' kk v ws e => by
    obtain ⟨z', ds, rfl, _, _⟩ := rqd
    cases td with
    | tup h q =>
      rw [hz] at h
      cases h
      cases q with
      | cons _ q =>
        subst e
        cases q with
        | cons q _ => exact (q.keep kk).nl
  refine Apt.of (S3 _ _ _ hz) (nlk _ (sameTk (S3 _))) (fun y => absurd y nz) ⟨dx, upd_same, rfl, ?_⟩
  rw [upd_upd]
  have S4 := S3 (.ins T.C_Talk dx (tkF 0 rq))
  have hp4 : (upd (upd H2 dx (.own p)) p (.ins T.C_Talk dx (tkF 0 rq))) p = some (.ins T.C_Talk dx (tkF 0 rq)) := upd_same
  show tSeq _ _ _ _ (upd (upd H2 dx (.own p)) p (.ins T.C_Talk dx (tkF 0 rq)))
  generalize (upd (upd H2 dx (.own p)) p (.ins T.C_Talk dx (tkF 0 rq))) = H4 at *
  have St4 := S2.keep S4
  have pa : p ≠ a := fun y => by obtain ⟨o, e⟩ := S2.some1; rw [← y, hp] at e; cases e
  have pc : p ≠ c := fun y => by obtain ⟨o, e⟩ := S2.some2; rw [← y, hp] at e; cases e
  refine ⟨_, rfl, a, c, rfl, St4, fun v dv H5 tv dpv S5 K5 => ?_⟩
  have kp5 := K5.tk St4
  have td5 := (td.keep (sameTk S4)).keep kp5
  have hz5 := kp5 _ _ (S4 _ _ hz)
  have hp5 := K5 _ _ pa pc hp4
  -- if talk.request() != request or ..
  refine ⟨_, rfl, p, dx, _, rfl, hp5, rfl, p, dx, _, _, rq, rfl, tk_of hp5, Apt.of hz5 (nlk _ ((sameTk S4).trans kp5)) (fun y => absurd y nz) ?_⟩
  refine ⟨_, rfl, _, _, td5.dp, td5.dp, td5.shaped d5, td5.shaped d5, _, rfl, iteNE td5.eq ?_⟩
  refine ⟨_, rfl, p, dx, _, rfl, hp5, rfl, p, dx, _, _, rq, z, us, rfl, tk_of hp5, hz5, fun H6 S6 => ?_⟩
  refine ⟨false, false, by rw [ez], rfl, _, rfl, iteNS rfl ?_⟩
  have hp6 := S6 _ _ hp5
  refine ⟨_, rfl, p, T.C_Talk, dx, _, _, rfl, hp6, T.cl_Talk, T.na_Talk_answers, rfl, rfl, _, rfl, iteNS rfl ?_⟩
  -- talk.answer(value)
  have B6 : Bs H6 a c v dv := ⟨S5.keep S6, tv.keep (sameTk S6), dpv⟩
  refine ⟨_, rfl, p, dx, _, rfl, hp6, rfl, _, rfl, p, dx, _, _, rq, z, us, v, rfl, tk_of hp6, S6 _ _ hz5, by omega, by omega, fun y => absurd (y.symm.trans ez) (by decide), fun _ H7 S7 R hR E2 => ?_⟩
  refine ⟨p, v, rfl, fun t ht => ?_⟩
  have ntp : t ≠ p := fun y => by rw [y, upd_same] at ht; cases ht
  refine hR _ _ dx _ (by rw [upd_ne ntp.symm, upd_same]) (by show 2 < 1000; decide) ?_
  have ht7 : H7 t = none := by rw [upd_ne ntp] at ht; exact ht
  have F8 : ∀ b o, b ≠ p → H6 b = some o → (upd (upd (upd H7 p (.ins T.C_Talk dx (putF "answers" (.int (0 + 1)) (tkF 0 rq)))) t (.tup [.str "done", v])) p (.ins T.C_Talk dx (tkF 1 t))) b = some o := fun b o nb e => by
    rw [upd_ne nb, upd_ne (ne_of_none (S7 _ _ e) ht7), upd_ne nb]; exact S7 _ _ e
  have hp8 : (upd (upd (upd H7 p (.ins T.C_Talk dx (putF "answers" (.int (0 + 1)) (tkF 0 rq)))) t (.tup [.str "done", v])) p (.ins T.C_Talk dx (tkF 1 t))) p = some (.ins T.C_Talk dx (tkF 1 t)) := upd_same
  have ht8 : (upd (upd (upd H7 p (.ins T.C_Talk dx (putF "answers" (.int (0 + 1)) (tkF 0 rq)))) t (.tup [.str "done", v])) p (.ins T.C_Talk dx (tkF 1 t))) t = some (.tup [.str "done", v]) := by rw [upd_ne ntp, upd_same]
  have B8 : Bs (upd (upd (upd H7 p (.ins T.C_Talk dx (putF "answers" (.int (0 + 1)) (tkF 0 rq)))) t (.tup [.str "done", v])) p (.ins T.C_Talk dx (tkF 1 t))) a c v dv := by
    refine ⟨?_, B6.tv.keep fun b vs e => F8 b _ (fun y => by rw [y, hp6] at e; cases e) e, B6.dp⟩
    obtain ⟨ns, z', q1, q2, q3, q4⟩ := B6.st
    exact ⟨ns, z', q1, F8 _ _ pa.symm q2, F8 _ _ pc.symm q3, q4⟩
  show tSeq _ _ _ _ (upd (upd (upd H7 p (.ins T.C_Talk dx (putF "answers" (.int (0 + 1)) (tkF 0 rq)))) t (.tup [.str "done", v])) p (.ins T.C_Talk dx (tkF 1 t)))
  generalize (upd (upd (upd H7 p (.ins T.C_Talk dx (putF "answers" (.int (0 + 1)) (tkF 0 rq)))) t (.tup [.str "done", v])) p (.ins T.C_Talk dx (tkF 1 t))) = H8 at *
  have dd : (PyData.tuple [.str ("done" : Str), dv]).depth ≤ 64 := by have := B8.dp; simp [PyData.depth, PyData.depthAll]; omega
  -- if talk.request() != ("done", value) or ..
  refine ⟨_, rfl, p, dx, _, rfl, hp8, rfl, p, dx, _, _, t, rfl, tk_of hp8, Apt.of ht8 (fun v ws e => by cases e; exact B8.tv.nl) (fun _ e => by cases e) ?_⟩
  refine ⟨_, rfl, (by show 2 ≤ sizeLine; decide), fun u1 hu1 => ?_⟩
  have S9 : Same H8 (upd H8 u1 (.tup [.str "done", v])) := Same.new hu1
  have D1 := doneD (S9 _ _ ht8) (B8.tv.keep (sameTk S9))
  have D2 := doneD (t := u1) upd_same (B8.tv.keep (sameTk S9))
  refine ⟨_, _, D1.dp, D2.dp, D1.shaped dd, D2.shaped dd, _, rfl, iteNE D1.eq ?_⟩
  have hp9 := S9 _ _ hp8
  refine ⟨_, rfl, p, dx, _, rfl, hp9, rfl, p, dx, _, _, t, _, _, rfl, tk_of hp9, S9 _ _ ht8, fun H10 S10 => ?_⟩
  refine ⟨true, true, by rw [endB_done], rfl, _, rfl, iteNS rfl ?_⟩
  have hp10 := S10 _ _ hp9
  refine ⟨_, rfl, p, T.C_Talk, dx, _, _, rfl, hp10, T.cl_Talk, T.na_Talk_answers, rfl, rfl, _, rfl, iteNS rfl ?_⟩
  -- if _law_late(talk, 5) != 1 or ..
  have S0 := S9.trans S10
  refine ⟨_, rfl, p, dx, _, _, t, _, _, _, rfl, tk_of hp10, S0 _ _ ht8, by omega, by omega, endB_done, fun H11 S11 => ?_⟩
  refine ⟨rfl, _, rfl, iteNS rfl ?_⟩
  have S12 := S0.trans S11
  have hp11 := S12 _ _ hp8
  have tv11 := B8.tv.keep (sameTk S12)
  refine ⟨_, rfl, p, dx, _, rfl, hp11, rfl, p, dx, _, _, t, rfl, tk_of hp11, Apt.of (S12 _ _ ht8) (fun v ws e => by cases e; exact tv11.nl) (fun _ e => by cases e) ?_⟩
  refine ⟨_, rfl, (by show 2 ≤ sizeLine; decide), fun u2 hu2 => ?_⟩
  have S13 : Same H11 (upd H11 u2 (.tup [.str "done", v])) := Same.new hu2
  have D3 := doneD (S13 _ _ (S12 _ _ ht8)) (tv11.keep (sameTk S13))
  have D4 := doneD (t := u2) upd_same (tv11.keep (sameTk S13))
  refine ⟨_, _, D3.dp, D4.dp, D3.shaped dd, D4.shaped dd, _, rfl, iteNE D3.eq ?_⟩
  have S14 := S12.trans S13
  exact k8 D _ _ _ a c v dv _ ⟨B8.st.keep S14, B8.tv.keep (sameTk S14), B8.dp⟩ k
end
theorem ok_law {P : Program} {w : World} {K : PySem.W.Frag} {mg : Str → Option Value} {base : Heap} (T : Txt K mg) (hP : FileS P T.file_TalkError) (hS : FileS P T.file_ChangeTalk___init__) : FnOk P w K mg base CX0 10 T.f_law T.d_law p_law (spLaw K) := by
  refine T.F_law.ok sc_law (fun vs H Q E h => ?_) (fun cdv A outer s0 H vs Q E hr h => ?_)
  · obtain ⟨a, ns, rfl, _⟩ := h
    rfl
  · obtain ⟨l0, ns, rfl, hl, hlen, k⟩ := h
    obtain ⟨t, ht, kt⟩ := law_H (E := E) (H0 := H) (s0 := s0) (outer := outer) (base := base) (P := P) (w := w) T hP hS hr
    exact ⟨t, ht, kt _ l0 ns H hl hlen k⟩

theorem all_mk {l : PySem.W.OpenLaw} {w : World} {K : PySem.W.Frag} {h : Heap} {mg : Str → Option Value} {fa : Addr} (X : K.In h) (G : h.Ns mainGlobals mg) (hfa : mg "law" = some (.ref fa))
    {f0 : Addr} {od0 an0 : Option Addr} {sl0 : Array (Option Value)} {oc0 kV0 dc0 pm0 cd0 ct0 : Value}
    {f1 : Addr} {od1 an1 : Option Addr} {sl1 : Array (Option Value)} {oc1 kV1 dc1 pm1 cd1 ct1 : Value}
    {f2 : Addr} {od2 an2 : Option Addr} {sl2 : Array (Option Value)} {oc2 kV2 dc2 pm2 cd2 ct2 : Value}
    {f3 : Addr} {od3 an3 : Option Addr} {sl3 : Array (Option Value)} {oc3 kV3 dc3 pm3 cd3 ct3 : Value}
    {f4 : Addr} {od4 an4 : Option Addr} {sl4 : Array (Option Value)} {oc4 kV4 dc4 pm4 cd4 ct4 : Value}
    {f5 : Addr} {od5 an5 : Option Addr} {sl5 : Array (Option Value)} {oc5 kV5 dc5 pm5 cd5 ct5 : Value}
    {f6 : Addr} {od6 an6 : Option Addr} {sl6 : Array (Option Value)} {oc6 kV6 dc6 pm6 cd6 ct6 : Value}
    {f7 : Addr} {od7 an7 : Option Addr} {sl7 : Array (Option Value)} {oc7 kV7 dc7 pm7 cd7 ct7 : Value}
    {f8 : Addr} {od8 an8 : Option Addr} {sl8 : Array (Option Value)} {oc8 kV8 dc8 pm8 cd8 ct8 : Value}
    {f9 : Addr} {od9 an9 : Option Addr} {sl9 : Array (Option Value)} {oc9 kV9 dc9 pm9 cd9 ct9 : Value}
    {f10 : Addr} {od10 an10 : Option Addr} {sl10 : Array (Option Value)} {oc10 kV10 dc10 pm10 cd10 ct10 : Value}
    {f11 : Addr} {od11 an11 : Option Addr} {sl11 : Array (Option Value)} {oc11 kV11 dc11 pm11 cd11 ct11 : Value}
    {f12 : Addr} {od12 an12 : Option Addr} {sl12 : Array (Option Value)} {oc12 kV12 dc12 pm12 cd12 ct12 : Value}
    {C_Talk : Addr}
    {C_ChangeTalk : Addr}
    {f_TalkError C_TalkError C_CaissonError N_TalkError cda_TalkError cc_TalkError : Addr} {an_TalkError od_TalkError dd_TalkError cdd_TalkError cld_TalkError : Option Addr} {sl_TalkError ccs_TalkError csl_TalkError : Array (Option Value)} {oc_TalkError kV_TalkError dc_TalkError pm_TalkError ct_TalkError ccl_TalkError cl_TalkError : Value} {vs_TalkError : Array Value} {file_TalkError nm_TalkError q_TalkError : Str} {tf_TalkError : Tok}
    {bs_TalkError bm_TalkError sub_TalkError : List Value} {sn_TalkError : List Str} {ab_TalkError : Bool} {col_TalkError : Option Bool} {k0_TalkError k1_TalkError k2_TalkError k3_TalkError k5_TalkError : Option Value}
    {f_ChangeTalk___init__ cda_ChangeTalk___init__ cc_ChangeTalk___init__ : Addr} {an_ChangeTalk___init__ od_ChangeTalk___init__ cdd_ChangeTalk___init__ cld_ChangeTalk___init__ : Option Addr} {sl_ChangeTalk___init__ ccs_ChangeTalk___init__ csl_ChangeTalk___init__ : Array (Option Value)} {oc_ChangeTalk___init__ kV_ChangeTalk___init__ dc_ChangeTalk___init__ pm_ChangeTalk___init__ ct_ChangeTalk___init__ ccl_ChangeTalk___init__ cl_ChangeTalk___init__ : Value} {vs_ChangeTalk___init__ : Array Value} {file_ChangeTalk___init__ : Str} {tf_ChangeTalk___init__ : Tok}
    (aCTalk : PySem.W.nsIn K mainGlobals "Talk" = some (some (.ref C_Talk)))
    (aCChangeTalk : PySem.W.nsIn K mainGlobals "ChangeTalk" = some (some (.ref C_ChangeTalk)))
    (aC_TalkError : PySem.W.nsIn K mainGlobals "TalkError" = some (some (.ref C_TalkError)))
    (aC_CaissonError : PySem.W.nsIn K mainGlobals "CaissonError" = some (some (.ref C_CaissonError)))
    (a0 : PySem.W.nsIn K mainGlobals "apart" = some (some (.ref f0)))
    (l0 : K.lookup f0 = some ⟨oc0, od0, .func (PySem.W.fnOf "apart" "apart" (defArgs s_apart) (defBody s_apart) (defScope s_apart) .none kV0 dc0 pm0 an0 cd0 ct0), sl0⟩)
    (c0 : PySem.W.codeIn K cd0 "apart" = true)
    (k0 : PySem.W.keepIn K (.ref f0) = true)
    (a1 : PySem.W.findIn K (.ref C_Talk) "__init__" = some (some (.ref f1)))
    (i1 : PySem.W.isFn K (.ref f1) = true)
    (l1 : K.lookup f1 = some ⟨oc1, od1, .func (PySem.W.fnOf "__init__" "Talk.__init__" (defArgs s_Talk___init__) (defBody s_Talk___init__) (defScope s_Talk___init__) .none kV1 dc1 pm1 an1 cd1 ct1), sl1⟩)
    (c1 : PySem.W.codeIn K cd1 "Talk.__init__" = true)
    (k1 : PySem.W.keepIn K (.ref f1) = true)
    (a2 : PySem.W.findIn K (.ref C_Talk) "request" = some (some (.ref f2)))
    (i2 : PySem.W.isFn K (.ref f2) = true)
    (l2 : K.lookup f2 = some ⟨oc2, od2, .func (PySem.W.fnOf "request" "Talk.request" (defArgs s_Talk_request) (defBody s_Talk_request) (defScope s_Talk_request) .none kV2 dc2 pm2 an2 cd2 ct2), sl2⟩)
    (c2 : PySem.W.codeIn K cd2 "Talk.request" = true)
    (k2 : PySem.W.keepIn K (.ref f2) = true)
    (a3 : PySem.W.findIn K (.ref C_Talk) "has_ended" = some (some (.ref f3)))
    (i3 : PySem.W.isFn K (.ref f3) = true)
    (l3 : K.lookup f3 = some ⟨oc3, od3, .func (PySem.W.fnOf "has_ended" "Talk.has_ended" (defArgs s_Talk_has_ended) (defBody s_Talk_has_ended) (defScope s_Talk_has_ended) .none kV3 dc3 pm3 an3 cd3 ct3), sl3⟩)
    (c3 : PySem.W.codeIn K cd3 "Talk.has_ended" = true)
    (k3 : PySem.W.keepIn K (.ref f3) = true)
    (a4 : PySem.W.findIn K (.ref C_Talk) "answer" = some (some (.ref f4)))
    (i4 : PySem.W.isFn K (.ref f4) = true)
    (l4 : K.lookup f4 = some ⟨oc4, od4, .func (PySem.W.fnOf "answer" "Talk.answer" (defArgs s_Talk_answer) (defBody s_Talk_answer) (defScope s_Talk_answer) .none kV4 dc4 pm4 an4 cd4 ct4), sl4⟩)
    (c4 : PySem.W.codeIn K cd4 "Talk.answer" = true)
    (k4 : PySem.W.keepIn K (.ref f4) = true)
    (a5 : PySem.W.findIn K (.ref C_Talk) "following" = some (some (.ref f5)))
    (i5 : PySem.W.isFn K (.ref f5) = true)
    (l5 : K.lookup f5 = some ⟨oc5, od5, .func (PySem.W.fnOf "following" "Talk.following" (defArgs s_Talk_following) (defBody s_Talk_following) (defScope s_Talk_following) .none kV5 dc5 pm5 an5 cd5 ct5), sl5⟩)
    (c5 : PySem.W.codeIn K cd5 "Talk.following" = true)
    (k5 : PySem.W.keepIn K (.ref f5) = true)
    (a6 : PySem.W.findIn K (.ref C_ChangeTalk) "following" = some (some (.ref f6)))
    (i6 : PySem.W.isFn K (.ref f6) = true)
    (l6 : K.lookup f6 = some ⟨oc6, od6, .func (PySem.W.fnOf "following" "ChangeTalk.following" (defArgs s_ChangeTalk_following) (defBody s_ChangeTalk_following) (defScope s_ChangeTalk_following) .none kV6 dc6 pm6 an6 cd6 ct6), sl6⟩)
    (c6 : PySem.W.codeIn K cd6 "ChangeTalk.following" = true)
    (k6 : PySem.W.keepIn K (.ref f6) = true)
    (a7 : PySem.W.nsIn K mainGlobals "_law_state" = some (some (.ref f7)))
    (l7 : K.lookup f7 = some ⟨oc7, od7, .func (PySem.W.fnOf "_law_state" "_law_state" (defArgs s__law_state) (defBody s__law_state) (defScope s__law_state) .none kV7 dc7 pm7 an7 cd7 ct7), sl7⟩)
    (c7 : PySem.W.codeIn K cd7 "_law_state" = true)
    (k7 : PySem.W.keepIn K (.ref f7) = true)
    (a8 : PySem.W.nsIn K mainGlobals "_law_draw" = some (some (.ref f8)))
    (l8 : K.lookup f8 = some ⟨oc8, od8, .func (PySem.W.fnOf "_law_draw" "_law_draw" (defArgs s__law_draw) (defBody s__law_draw) (defScope s__law_draw) .none kV8 dc8 pm8 an8 cd8 ct8), sl8⟩)
    (c8 : PySem.W.codeIn K cd8 "_law_draw" = true)
    (k8 : PySem.W.keepIn K (.ref f8) = true)
    (a9 : PySem.W.nsIn K mainGlobals "_law_request" = some (some (.ref f9)))
    (l9 : K.lookup f9 = some ⟨oc9, od9, .func (PySem.W.fnOf "_law_request" "_law_request" (defArgs s__law_request) (defBody s__law_request) (defScope s__law_request) .none kV9 dc9 pm9 an9 cd9 ct9), sl9⟩)
    (c9 : PySem.W.codeIn K cd9 "_law_request" = true)
    (k9 : PySem.W.keepIn K (.ref f9) = true)
    (a10 : PySem.W.nsIn K mainGlobals "_law_value" = some (some (.ref f10)))
    (l10 : K.lookup f10 = some ⟨oc10, od10, .func (PySem.W.fnOf "_law_value" "_law_value" (defArgs s__law_value) (defBody s__law_value) (defScope s__law_value) .none kV10 dc10 pm10 an10 cd10 ct10), sl10⟩)
    (c10 : PySem.W.codeIn K cd10 "_law_value" = true)
    (k10 : PySem.W.keepIn K (.ref f10) = true)
    (a11 : PySem.W.nsIn K mainGlobals "_law_late" = some (some (.ref f11)))
    (l11 : K.lookup f11 = some ⟨oc11, od11, .func (PySem.W.fnOf "_law_late" "_law_late" (defArgs s__law_late) (defBody s__law_late) (defScope s__law_late) .none kV11 dc11 pm11 an11 cd11 ct11), sl11⟩)
    (c11 : PySem.W.codeIn K cd11 "_law_late" = true)
    (k11 : PySem.W.keepIn K (.ref f11) = true)
    (a12 : PySem.W.nsIn K mainGlobals "law" = some (some (.ref f12)))
    (l12 : K.lookup f12 = some ⟨oc12, od12, .func (PySem.W.fnOf "law" "law" (defArgs s_law) (defBody s_law) (defScope s_law) .none kV12 dc12 pm12 an12 cd12 ct12), sl12⟩)
    (c12 : PySem.W.codeIn K cd12 "law" = true)
    (k12 : PySem.W.keepIn K (.ref f12) = true)
    (pgTalk : PySem.W.plainGet K C_Talk Str.empty = true)
    (hdTalk : PySem.W.hasDictIn K C_Talk = true)
    (poTalk : PySem.W.plainOver K C_Talk = true)
    (saTalk : PySem.W.findIn K (.ref C_Talk) "__setattr__" = some (some (.builtin "object.__setattr__")))
    (mkTalk : PySem.W.makesIn K C_Talk = true)
    (kcTalk : PySem.W.keepIn K (.ref C_Talk) = true)
    (nTalkanswers : PySem.W.findIn K (.ref C_Talk) "answers" = some none)
    (nTalk_request : PySem.W.findIn K (.ref C_Talk) "_request" = some none)
    (pgChangeTalk : PySem.W.plainGet K C_ChangeTalk Str.empty = true)
    (hdChangeTalk : PySem.W.hasDictIn K C_ChangeTalk = true)
    (poChangeTalk : PySem.W.plainOver K C_ChangeTalk = true)
    (saChangeTalk : PySem.W.findIn K (.ref C_ChangeTalk) "__setattr__" = some (some (.builtin "object.__setattr__")))
    (nChangeTalkanswers : PySem.W.findIn K (.ref C_ChangeTalk) "answers" = some none)
    (nChangeTalk_request : PySem.W.findIn K (.ref C_ChangeTalk) "_request" = some none)
    (nChangeTalk_requests : PySem.W.findIn K (.ref C_ChangeTalk) "_requests" = some none)
    (am_ChangeTalk_answer : PySem.W.findIn K (.ref C_ChangeTalk) "answer" = some (some (.ref f4)))
    (am_ChangeTalk_has_ended : PySem.W.findIn K (.ref C_ChangeTalk) "has_ended" = some (some (.ref f3)))
    (am_ChangeTalk_request : PySem.W.findIn K (.ref C_ChangeTalk) "request" = some (some (.ref f2)))
    (zrange : PySem.W.nsIn K mainGlobals "range" = some none)
    (zlen : PySem.W.nsIn K mainGlobals "len" = some none)
    (zabs : PySem.W.nsIn K mainGlobals "abs" = some none)
    (zint : PySem.W.nsIn K mainGlobals "int" = some none)
    (zisinstance : PySem.W.nsIn K mainGlobals "isinstance" = some none)
    (zsuper : PySem.W.nsIn K mainGlobals "super" = some none)
    (zlist : PySem.W.nsIn K mainGlobals "list" = some none)
    (ini_TalkError : PySem.W.findIn K (.ref C_TalkError) "__init__" = some (some (.ref f_TalkError)))
    (ty_TalkError : PySem.W.typeIn K (.ref f_TalkError) = some (.type "function"))
    (l_TalkError : K.lookup f_TalkError = some ⟨oc_TalkError, od_TalkError, .func (PySem.W.ksFn "__init__" "TalkError.__init__" (defArgs s_TalkError___init__) (defBody s_TalkError___init__) (defScope s_TalkError___init__) .none kV_TalkError dc_TalkError pm_TalkError an_TalkError (.ref cda_TalkError) ct_TalkError cc_TalkError), sl_TalkError⟩)
    (c_TalkError : PySem.W.codeIn K (.ref cda_TalkError) "TalkError.__init__" = true)
    (lc_TalkError : K.lookup cc_TalkError = some ⟨cl_TalkError, cld_TalkError, .cell (some (.ref C_TalkError)), csl_TalkError⟩)
    (ld_TalkError : K.lookup cda_TalkError = some ⟨ccl_TalkError, cdd_TalkError, .fields vs_TalkError, ccs_TalkError⟩)
    (v_TalkError : vs_TalkError[2]? = some (.str file_TalkError tf_TalkError))
    (lx_TalkError : K.lookup C_TalkError = some (PySem.excClassObj nm_TalkError q_TalkError C_TalkError N_TalkError bs_TalkError bm_TalkError true sn_TalkError sub_TalkError ab_TalkError col_TalkError dd_TalkError k0_TalkError k1_TalkError k2_TalkError k3_TalkError k5_TalkError "ValueError.__new__"))
    (rv_TalkError : PySem.HandSPX.refsVE bm_TalkError = true)
    (sa_TalkError : PySem.W.findIn K (.ref C_TalkError) "__setattr__" = some (some (.builtin "object.__setattr__")))
    (xb_TalkError : PySem.W.subIn K (.ref C_TalkError) (.type "BaseException") = some true)
    (xt_TalkError : PySem.W.typeIn K (.ref C_TalkError) = some (.type "type"))
    (xk_TalkError : PySem.W.keepIn K (.ref C_TalkError) = true)
    (hd_TalkError : PySem.W.hasDictIn K C_TalkError = true)
    (hd_CaissonError : PySem.W.hasDictIn K C_CaissonError = true)
    (xt_CaissonError : PySem.W.typeIn K (.ref C_CaissonError) = some (.type "type"))
    (ss_TalkError : PySem.W.subIn K (.ref C_TalkError) (.ref C_TalkError) = some true)
    (sb_TalkError : PySem.W.subIn K (.ref C_TalkError) (.ref C_CaissonError) = some true)
    (sv_TalkError : PySem.W.subIn K (.ref C_TalkError) (.type "ValueError") = some true)
    (mr_TalkError : PySem.W.mroIn K C_TalkError (.ref C_TalkError) = some true)
    (mo_TalkError : PySem.W.mroIn K C_TalkError (.type "object") = some true)
    (su_TalkError : PySem.W.ks_superIn K C_TalkError C_TalkError "__init__" = some (some (.builtin "ValueError.__init__")))
    (th_TalkError : PySem.W.nsIn K PySem.cStatics "thirdparty.any" = some none)
    (ga_TalkError : PySem.W.findIn K (.ref C_TalkError) "__getattribute__" = some (some (.builtin "BaseException.__getattribute__")))
    (gt_TalkError : PySem.W.findIn K (.ref C_TalkError) "__getattr__" = some none)
    (gc_TalkError : PySem.W.findIn K (.ref C_TalkError) "__class__" = some (some (.builtin "object.__class__")))
    (sp_TalkError : PySem.W.specialIn K (.builtin "object.__class__") "__get__" = some (some (.builtin "getset_descriptor.__get__")))
    (tk_TalkError : PySem.W.takesIn K (.builtin "object.__class__") = some true)
    (na_TalkError : PySem.W.findIn K (.ref C_TalkError) "answers" = some none)
    (hf_TalkError : ((l.prog.main.file : Str) == file_TalkError) = true)
    (ht_TalkError : (l.prog.main.scope.names.lookup ("super" : Str)).isSome = false)
    (th_sup : PySem.W.nsIn K PySem.cStatics "thirdparty.any" = some none)
    (fi_ChangeTalk___init__ : PySem.W.findIn K (.ref C_ChangeTalk) "__init__" = some (some (.ref f_ChangeTalk___init__)))
    (if_ChangeTalk___init__ : PySem.W.isFn K (.ref f_ChangeTalk___init__) = true)
    (l_ChangeTalk___init__ : K.lookup f_ChangeTalk___init__ = some ⟨oc_ChangeTalk___init__, od_ChangeTalk___init__, .func (PySem.W.ksFn "__init__" "ChangeTalk.__init__" (defArgs s_ChangeTalk___init__) (defBody s_ChangeTalk___init__) (defScope s_ChangeTalk___init__) .none kV_ChangeTalk___init__ dc_ChangeTalk___init__ pm_ChangeTalk___init__ an_ChangeTalk___init__ (.ref cda_ChangeTalk___init__) ct_ChangeTalk___init__ cc_ChangeTalk___init__), sl_ChangeTalk___init__⟩)
    (c_ChangeTalk___init__ : PySem.W.codeIn K (.ref cda_ChangeTalk___init__) "ChangeTalk.__init__" = true)
    (lc_ChangeTalk___init__ : K.lookup cc_ChangeTalk___init__ = some ⟨cl_ChangeTalk___init__, cld_ChangeTalk___init__, .cell (some (.ref C_ChangeTalk)), csl_ChangeTalk___init__⟩)
    (ld_ChangeTalk___init__ : K.lookup cda_ChangeTalk___init__ = some ⟨ccl_ChangeTalk___init__, cdd_ChangeTalk___init__, .fields vs_ChangeTalk___init__, ccs_ChangeTalk___init__⟩)
    (v_ChangeTalk___init__ : vs_ChangeTalk___init__[2]? = some (.str file_ChangeTalk___init__ tf_ChangeTalk___init__))
    (kf_ChangeTalk___init__ : PySem.W.keepIn K (.ref f_ChangeTalk___init__) = true)
    (mkk_ChangeTalk___init__ : PySem.W.makesIn K C_ChangeTalk = true)
    (kcc_ChangeTalk___init__ : PySem.W.keepIn K (.ref C_ChangeTalk) = true)
    (hf_sup : ((l.prog.main.file : Str) == file_ChangeTalk___init__) = true)
    (ht_sup : (l.prog.main.scope.names.lookup ("super" : Str)).isSome = false)
    (ty_ChangeTalk___init__ : PySem.W.typeIn K (.ref f1) = some (.type "function"))
    (fn_ChangeTalk___init__ : PySem.W.fnIn K f1 = true)
    (mro_ChangeTalk___init___ChangeTalk : PySem.W.mroIn K C_ChangeTalk (.ref C_ChangeTalk) = some true)
    (su_ChangeTalk___init___ChangeTalk : PySem.W.ks_superIn K C_ChangeTalk C_ChangeTalk "__init__" = some (some (.ref f1))) :
    ∃ fd : FuncData, (∀ (s : Shared) (v : Value), BindsTo s fd ⟨[v], []⟩ [("script", v)]) ∧ ∀ base : Heap, K.In base → base.Ns mainGlobals mg → FnOk l.prog w K mg base CX0 10 fa fd ["script"] (spLaw K) := by
  have e := hfa.symm.trans (PySem.W.mg_of X G a12)
  cases e
  let T : Txt K mg := {
    f_apart := f0, d_apart := PySem.W.fnOf "apart" "apart" (defArgs s_apart) (defBody s_apart) (defScope s_apart) .none kV0 dc0 pm0 an0 cd0 ct0, F_apart := fun_mk (st := s_apart) l0 c0 k0, b_apart := ((fun_mk (st := s_apart) l0 c0 k0).binds (ps := p_apart) fun _ _ _ _ _ _ us hl => match us, hl with | [_], _ => rfl),
    mg_apart := PySem.W.mg_of X G a0,
    f_Talk___init__ := f1, d_Talk___init__ := PySem.W.fnOf "__init__" "Talk.__init__" (defArgs s_Talk___init__) (defBody s_Talk___init__) (defScope s_Talk___init__) .none kV1 dc1 pm1 an1 cd1 ct1, F_Talk___init__ := fun_mk (st := s_Talk___init__) l1 c1 k1, b_Talk___init__ := ((fun_mk (st := s_Talk___init__) l1 c1 k1).binds (ps := p_Talk___init__) fun _ _ _ _ _ _ us hl => match us, hl with | [_, _], _ => rfl),
    f_Talk_request := f2, d_Talk_request := PySem.W.fnOf "request" "Talk.request" (defArgs s_Talk_request) (defBody s_Talk_request) (defScope s_Talk_request) .none kV2 dc2 pm2 an2 cd2 ct2, F_Talk_request := fun_mk (st := s_Talk_request) l2 c2 k2, b_Talk_request := ((fun_mk (st := s_Talk_request) l2 c2 k2).binds (ps := p_Talk_request) fun _ _ _ _ _ _ us hl => match us, hl with | [_], _ => rfl),
    f_Talk_has_ended := f3, d_Talk_has_ended := PySem.W.fnOf "has_ended" "Talk.has_ended" (defArgs s_Talk_has_ended) (defBody s_Talk_has_ended) (defScope s_Talk_has_ended) .none kV3 dc3 pm3 an3 cd3 ct3, F_Talk_has_ended := fun_mk (st := s_Talk_has_ended) l3 c3 k3, b_Talk_has_ended := ((fun_mk (st := s_Talk_has_ended) l3 c3 k3).binds (ps := p_Talk_has_ended) fun _ _ _ _ _ _ us hl => match us, hl with | [_], _ => rfl),
    f_Talk_answer := f4, d_Talk_answer := PySem.W.fnOf "answer" "Talk.answer" (defArgs s_Talk_answer) (defBody s_Talk_answer) (defScope s_Talk_answer) .none kV4 dc4 pm4 an4 cd4 ct4, F_Talk_answer := fun_mk (st := s_Talk_answer) l4 c4 k4, b_Talk_answer := ((fun_mk (st := s_Talk_answer) l4 c4 k4).binds (ps := p_Talk_answer) fun _ _ _ _ _ _ us hl => match us, hl with | [_, _], _ => rfl),
    f_Talk_following := f5, d_Talk_following := PySem.W.fnOf "following" "Talk.following" (defArgs s_Talk_following) (defBody s_Talk_following) (defScope s_Talk_following) .none kV5 dc5 pm5 an5 cd5 ct5, F_Talk_following := fun_mk (st := s_Talk_following) l5 c5 k5, b_Talk_following := ((fun_mk (st := s_Talk_following) l5 c5 k5).binds (ps := p_Talk_following) fun _ _ _ _ _ _ us hl => match us, hl with | [_, _], _ => rfl),
    f_ChangeTalk_following := f6, d_ChangeTalk_following := PySem.W.fnOf "following" "ChangeTalk.following" (defArgs s_ChangeTalk_following) (defBody s_ChangeTalk_following) (defScope s_ChangeTalk_following) .none kV6 dc6 pm6 an6 cd6 ct6, F_ChangeTalk_following := fun_mk (st := s_ChangeTalk_following) l6 c6 k6, b_ChangeTalk_following := ((fun_mk (st := s_ChangeTalk_following) l6 c6 k6).binds (ps := p_ChangeTalk_following) fun _ _ _ _ _ _ us hl => match us, hl with | [_, _], _ => rfl),
    f__law_state := f7, d__law_state := PySem.W.fnOf "_law_state" "_law_state" (defArgs s__law_state) (defBody s__law_state) (defScope s__law_state) .none kV7 dc7 pm7 an7 cd7 ct7, F__law_state := fun_mk (st := s__law_state) l7 c7 k7, b__law_state := ((fun_mk (st := s__law_state) l7 c7 k7).binds (ps := p__law_state) fun _ _ _ _ _ _ us hl => match us, hl with | [_], _ => rfl),
    mg__law_state := PySem.W.mg_of X G a7,
    f__law_draw := f8, d__law_draw := PySem.W.fnOf "_law_draw" "_law_draw" (defArgs s__law_draw) (defBody s__law_draw) (defScope s__law_draw) .none kV8 dc8 pm8 an8 cd8 ct8, F__law_draw := fun_mk (st := s__law_draw) l8 c8 k8, b__law_draw := ((fun_mk (st := s__law_draw) l8 c8 k8).binds (ps := p__law_draw) fun _ _ _ _ _ _ us hl => match us, hl with | [_, _], _ => rfl),
    mg__law_draw := PySem.W.mg_of X G a8,
    f__law_request := f9, d__law_request := PySem.W.fnOf "_law_request" "_law_request" (defArgs s__law_request) (defBody s__law_request) (defScope s__law_request) .none kV9 dc9 pm9 an9 cd9 ct9, F__law_request := fun_mk (st := s__law_request) l9 c9 k9, b__law_request := ((fun_mk (st := s__law_request) l9 c9 k9).binds (ps := p__law_request) fun _ _ _ _ _ _ us hl => match us, hl with | [_], _ => rfl),
    mg__law_request := PySem.W.mg_of X G a9,
    f__law_value := f10, d__law_value := PySem.W.fnOf "_law_value" "_law_value" (defArgs s__law_value) (defBody s__law_value) (defScope s__law_value) .none kV10 dc10 pm10 an10 cd10 ct10, F__law_value := fun_mk (st := s__law_value) l10 c10 k10, b__law_value := ((fun_mk (st := s__law_value) l10 c10 k10).binds (ps := p__law_value) fun _ _ _ _ _ _ us hl => match us, hl with | [_], _ => rfl),
    mg__law_value := PySem.W.mg_of X G a10,
    f__law_late := f11, d__law_late := PySem.W.fnOf "_law_late" "_law_late" (defArgs s__law_late) (defBody s__law_late) (defScope s__law_late) .none kV11 dc11 pm11 an11 cd11 ct11, F__law_late := fun_mk (st := s__law_late) l11 c11 k11, b__law_late := ((fun_mk (st := s__law_late) l11 c11 k11).binds (ps := p__law_late) fun _ _ _ _ _ _ us hl => match us, hl with | [_, _], _ => rfl),
    mg__law_late := PySem.W.mg_of X G a11,
    f_law := fa, d_law := PySem.W.fnOf "law" "law" (defArgs s_law) (defBody s_law) (defScope s_law) .none kV12 dc12 pm12 an12 cd12 ct12, F_law := fun_mk (st := s_law) l12 c12 k12, b_law := ((fun_mk (st := s_law) l12 c12 k12).binds (ps := p_law) fun _ _ _ _ _ _ us hl => match us, hl with | [_], _ => rfl),
    mg_law := PySem.W.mg_of X G a12,
    C_Talk := C_Talk, mg_Talk := PySem.W.mg_of X G aCTalk, cl_Talk := ⟨pgTalk, hdTalk, poTalk, saTalk⟩,
    M_Talk := ⟨mkTalk, a1, i1, kcTalk⟩,
    na_Talk_answers := nTalkanswers,
    na_Talk__request := nTalk_request,
    m_Talk_request := ⟨a2, i2, k2⟩,
    m_Talk_has_ended := ⟨a3, i3, k3⟩,
    m_Talk_answer := ⟨a4, i4, k4⟩,
    m_Talk_following := ⟨a5, i5, k5⟩,
    C_ChangeTalk := C_ChangeTalk, mg_ChangeTalk := PySem.W.mg_of X G aCChangeTalk, cl_ChangeTalk := ⟨pgChangeTalk, hdChangeTalk, poChangeTalk, saChangeTalk⟩,
    na_ChangeTalk_answers := nChangeTalkanswers,
    na_ChangeTalk__request := nChangeTalk_request,
    na_ChangeTalk__requests := nChangeTalk_requests,
    m_ChangeTalk_following := ⟨a6, i6, k6⟩,
    m_ChangeTalk_answer := ⟨am_ChangeTalk_answer, i4, k4⟩,
    m_ChangeTalk_has_ended := ⟨am_ChangeTalk_has_ended, i3, k3⟩,
    m_ChangeTalk_request := ⟨am_ChangeTalk_request, i2, k2⟩,
    z_range := PySem.W.mg_none_of X G zrange,
    z_len := PySem.W.mg_none_of X G zlen,
    z_abs := PySem.W.mg_none_of X G zabs,
    z_int := PySem.W.mg_none_of X G zint,
    z_isinstance := PySem.W.mg_none_of X G zisinstance,
    z_super := PySem.W.mg_none_of X G zsuper,
    z_list := PySem.W.mg_none_of X G zlist,
    f_TalkError := f_TalkError, d_TalkError := _, C_TalkError := C_TalkError, C_CaissonError := C_CaissonError, file_TalkError := file_TalkError, mg_TalkError := PySem.W.mg_of X G aC_TalkError, mg_CaissonError := PySem.W.mg_of X G aC_CaissonError,
    S_TalkError := ⟨⟨_, _, _, _, cda_TalkError, cc_TalkError, _, _, _, _, rfl, l_TalkError, c_TalkError, ⟨⟨⟨_, _, _, _, _, _, _, _, _, _, _, _, _, _, _, lx_TalkError, rv_TalkError⟩, sa_TalkError, xb_TalkError, xt_TalkError, xk_TalkError⟩, hd_TalkError, ⟨_, _, _, lc_TalkError⟩, ⟨_, _, _, _, ld_TalkError, _, v_TalkError⟩, mr_TalkError, sv_TalkError, su_TalkError, th_TalkError, ⟨_, rfl, rfl⟩⟩⟩, ⟨⟨_, _, _, _, _, _, _, _, _, _, _, _, _, _, _, lx_TalkError, rv_TalkError⟩, sa_TalkError, xb_TalkError, xt_TalkError, xk_TalkError⟩, ini_TalkError, ty_TalkError, ⟨ga_TalkError, gt_TalkError, xb_TalkError, hd_TalkError, gc_TalkError, sp_TalkError, tk_TalkError, mo_TalkError⟩, ⟨ga_TalkError, gt_TalkError, xb_TalkError, hd_TalkError⟩, na_TalkError, PySem.W.exm_ref xb_TalkError hd_TalkError xt_TalkError ss_TalkError, kit_ref hd_CaissonError xt_CaissonError sb_TalkError, kit_VE sv_TalkError⟩,
    f_ChangeTalk___init__ := f_ChangeTalk___init__, d_ChangeTalk___init__ := _, cda_ChangeTalk___init__ := cda_ChangeTalk___init__, cc_ChangeTalk___init__ := cc_ChangeTalk___init__, file_ChangeTalk___init__ := file_ChangeTalk___init__, lk_ChangeTalk___init__ := ⟨_, _, _, _, _, _, _, _, rfl, l_ChangeTalk___init__, c_ChangeTalk___init__⟩,
    M_ChangeTalk := ⟨mkk_ChangeTalk___init__, fi_ChangeTalk___init__, if_ChangeTalk___init__, kcc_ChangeTalk___init__⟩,
    so_ChangeTalk___init___ChangeTalk := ⟨⟨_, _, _, lc_ChangeTalk___init__⟩, ⟨_, _, _, _, ld_ChangeTalk___init__, _, v_ChangeTalk___init__⟩, hdChangeTalk, hdChangeTalk, mro_ChangeTalk___init___ChangeTalk, su_ChangeTalk___init___ChangeTalk, ty_ChangeTalk___init__, fn_ChangeTalk___init__, th_sup, ⟨_, rfl, rfl⟩⟩ }
  exact ⟨_, fun s v => .of_eq rfl, fun base _ _ => ok_law T ⟨hf_TalkError, ht_TalkError⟩ ⟨hf_sup, ht_sup⟩⟩
theorem walk {l : PySem.W.OpenLaw} {q : Program} {loose : List Str} {XP : (Str → Option Value) → Heap → Prop} {YP : World → Heap → Prop} {d : DefRec} {K : Params → PySem.W.Frag} (hn : l.most = some 63) (hdf : d.params.defaults = [])
    (hY : ∀ (w : World) (h : Heap), YP w h → (K w.params).In h)
    (F : ∀ (w : World) (mg : Str → Option Value) (fa : Addr) (h : Heap), (K w.params).In h → h.Ns mainGlobals mg → mg d.name = some (.ref fa) →
      ∃ fd : FuncData, (∀ (s : Shared) (u : Value), BindsTo s fd ⟨[u], []⟩ [("script", u)]) ∧ ∀ base : Heap, (K w.params).In base → base.Ns mainGlobals mg → FnOk l.prog w (K w.params) mg base CX0 10 fa fd ["script"] (spLaw (K w.params))) :
    PySem.W.WalkO q loose XP YP l.row.toRowW d [] (fun f vs => PySem.call f vs) :=
  L2.walk_of (n := 63) (k := 10) (x := "script") (CX := fun _ => CX0) (sp := fun w => spLaw (K w.params)) hn (by decide) hdf ⟨rfl, by decide, by decide⟩ hY F (fun _ _ a ns hl _ hS => ⟨a, ns, rfl, hS, hl, fun _ => rfl⟩) fun _ _ _ _ _ z => z
end Cs
open PySem PySem.W PyProof.Rows in
set_option maxRecDepth 100000 in
set_option maxHeartbeats 0 in
theorem PySem.Challenge.cw_caisson_k05_talks_holds : PySem.Challenge.rw_caisson_k05_talks.Holds := by
  w_on; o_law; k_head; (case hw => w_witness2)
  k_fill
  refine Cs.walk (l := PySem.Challenge.rw_caisson_k05_talks) rfl rfl (fun w h Y => PySem.W.kIn_of Y) ?F
  case F =>
    intro w mg fa h KX G hmg
    refine' Cs.all_mk KX G hmg ?aCTalk ?aCChangeTalk ?aC_TalkError ?aC_CaissonError ?a0 ?l0 ?c0 ?k0 ?a1 ?i1 ?l1 ?c1 ?k1 ?a2 ?i2 ?l2 ?c2 ?k2 ?a3 ?i3 ?l3 ?c3 ?k3 ?a4 ?i4 ?l4 ?c4 ?k4 ?a5 ?i5 ?l5 ?c5 ?k5 ?a6 ?i6 ?l6 ?c6 ?k6 ?a7 ?l7 ?c7 ?k7 ?a8 ?l8 ?c8 ?k8 ?a9 ?l9 ?c9 ?k9 ?a10 ?l10 ?c10 ?k10 ?a11 ?l11 ?c11 ?k11 ?a12 ?l12 ?c12 ?k12 ?pgTalk ?hdTalk ?poTalk ?saTalk ?mkTalk ?kcTalk ?nTalkanswers ?nTalk_request ?pgChangeTalk ?hdChangeTalk ?poChangeTalk ?saChangeTalk ?nChangeTalkanswers ?nChangeTalk_request ?nChangeTalk_requests ?am_ChangeTalk_answer ?am_ChangeTalk_has_ended ?am_ChangeTalk_request ?zrange ?zlen ?zabs ?zint ?zisinstance ?zsuper ?zlist ?ini_TalkError ?ty_TalkError ?l_TalkError ?c_TalkError ?lc_TalkError ?ld_TalkError ?v_TalkError ?lx_TalkError ?rv_TalkError ?sa_TalkError ?xb_TalkError ?xt_TalkError ?xk_TalkError ?hd_TalkError ?hd_CaissonError ?xt_CaissonError ?ss_TalkError ?sb_TalkError ?sv_TalkError ?mr_TalkError ?mo_TalkError ?su_TalkError ?th_TalkError ?ga_TalkError ?gt_TalkError ?gc_TalkError ?sp_TalkError ?tk_TalkError ?na_TalkError ?hf_TalkError ?ht_TalkError ?th_sup ?fi_ChangeTalk___init__ ?if_ChangeTalk___init__ ?l_ChangeTalk___init__ ?c_ChangeTalk___init__ ?lc_ChangeTalk___init__ ?ld_ChangeTalk___init__ ?v_ChangeTalk___init__ ?kf_ChangeTalk___init__ ?mkk_ChangeTalk___init__ ?kcc_ChangeTalk___init__ ?hf_sup ?ht_sup ?ty_ChangeTalk___init__ ?fn_ChangeTalk___init__ ?mro_ChangeTalk___init___ChangeTalk ?su_ChangeTalk___init___ChangeTalk
    (case aCTalk => k_is)
    (case aCChangeTalk => k_is)
    (case aC_TalkError => k_is)
    (case aC_CaissonError => k_is)
    (case a0 => k_is)
    (case l0 => k_is)
    (case c0 => k_is)
    (case k0 => k_is)
    (case a1 => k_is)
    (case i1 => k_is)
    (case l1 => k_is)
    (case c1 => k_is)
    (case k1 => k_is)
    (case a2 => k_is)
    (case i2 => k_is)
    (case l2 => k_is)
    (case c2 => k_is)
    (case k2 => k_is)
    (case a3 => k_is)
    (case i3 => k_is)
    (case l3 => k_is)
    (case c3 => k_is)
    (case k3 => k_is)
    (case a4 => k_is)
    (case i4 => k_is)
    (case l4 => k_is)
    (case c4 => k_is)
    (case k4 => k_is)
    (case a5 => k_is)
    (case i5 => k_is)
    (case l5 => k_is)
    (case c5 => k_is)
    (case k5 => k_is)
    (case a6 => k_is)
    (case i6 => k_is)
    (case l6 => k_is)
    (case c6 => k_is)
    (case k6 => k_is)
    (case a7 => k_is)
    (case l7 => k_is)
    (case c7 => k_is)
    (case k7 => k_is)
    (case a8 => k_is)
    (case l8 => k_is)
    (case c8 => k_is)
    (case k8 => k_is)
    (case a9 => k_is)
    (case l9 => k_is)
    (case c9 => k_is)
    (case k9 => k_is)
    (case a10 => k_is)
    (case l10 => k_is)
    (case c10 => k_is)
    (case k10 => k_is)
    (case a11 => k_is)
    (case l11 => k_is)
    (case c11 => k_is)
    (case k11 => k_is)
    (case a12 => k_is)
    (case l12 => k_is)
    (case c12 => k_is)
    (case k12 => k_is)
    (case pgTalk => k_is)
    (case hdTalk => k_is)
    (case poTalk => k_is)
    (case saTalk => k_is)
    (case mkTalk => k_is)
    (case kcTalk => k_is)
    (case nTalkanswers => k_is)
    (case nTalk_request => k_is)
    (case pgChangeTalk => k_is)
    (case hdChangeTalk => k_is)
    (case poChangeTalk => k_is)
    (case saChangeTalk => k_is)
    (case nChangeTalkanswers => k_is)
    (case nChangeTalk_request => k_is)
    (case nChangeTalk_requests => k_is)
    (case am_ChangeTalk_answer => k_is)
    (case am_ChangeTalk_has_ended => k_is)
    (case am_ChangeTalk_request => k_is)
    (case zrange => k_is)
    (case zlen => k_is)
    (case zabs => k_is)
    (case zint => k_is)
    (case zisinstance => k_is)
    (case zsuper => k_is)
    (case zlist => k_is)
    (case ini_TalkError => k_is)
    (case ty_TalkError => k_is)
    (case l_TalkError => k_is)
    (case c_TalkError => k_is)
    (case lc_TalkError => k_is)
    (case ld_TalkError => k_is)
    (case v_TalkError => rfl)
    (case lx_TalkError => k_is)
    (case rv_TalkError => first | rfl | decide +kernel)
    (case sa_TalkError => k_is)
    (case xb_TalkError => k_is)
    (case xt_TalkError => k_is)
    (case xk_TalkError => k_is)
    (case hd_TalkError => k_is)
    (case hd_CaissonError => k_is)
    (case xt_CaissonError => k_is)
    (case ss_TalkError => k_is)
    (case sb_TalkError => k_is)
    (case sv_TalkError => k_is)
    (case mr_TalkError => k_is)
    (case mo_TalkError => k_is)
    (case su_TalkError => ks_is)
    (case th_TalkError => k_is)
    (case ga_TalkError => k_is)
    (case gt_TalkError => k_is)
    (case gc_TalkError => k_is)
    (case sp_TalkError => k_is)
    (case tk_TalkError => k_is)
    (case na_TalkError => k_is)
    (case hf_TalkError => first | rfl | decide +kernel)
    (case ht_TalkError => first | rfl | decide +kernel)
    (case th_sup => k_is)
    (case fi_ChangeTalk___init__ => k_is)
    (case if_ChangeTalk___init__ => k_is)
    (case l_ChangeTalk___init__ => k_is)
    (case c_ChangeTalk___init__ => k_is)
    (case lc_ChangeTalk___init__ => k_is)
    (case ld_ChangeTalk___init__ => k_is)
    (case v_ChangeTalk___init__ => rfl)
    (case kf_ChangeTalk___init__ => k_is)
    (case mkk_ChangeTalk___init__ => k_is)
    (case kcc_ChangeTalk___init__ => k_is)
    (case hf_sup => first | rfl | decide +kernel)
    (case ht_sup => first | rfl | decide +kernel)
    (case ty_ChangeTalk___init__ => k_is)
    (case fn_ChangeTalk___init__ => k_is)
    (case mro_ChangeTalk___init___ChangeTalk => k_is)
    (case su_ChangeTalk___init___ChangeTalk => ks_is)

