import PyProof.Rows.All
import Wide.All
import OpenK.AllK
import Wide.FinOn
import HandS.ForMost
import HandS.Style
import HandS.RevRange
import HandS.TupSets
import HandS.MakeKwOnly
import HandS.SetBool
import HandS.TupLe
import HandS.TupAny
import HandS.IsInst
import HandS.Deep
import HandS.Star
import HandS.TupMul
import HandS.SetKeys
import HandS.SortInts
import HandS.Zip0
import HandS.Strs
import HandS.SetFor
import PyProof.DictRoadsH
import PyProof.P3Eq
import PyProof.Rows.TupTab
import KE.KDictZip
import KE.KItemsList
import HandS.ExcOwn
import HandS.WordsExc
import KE.KExcSuper
import KE.RegKSuper
import PySem.Challenge.RW_caisson_k04_blank_volumes
set_option Elab.async false
set_option maxRecDepth 100000
namespace Cs
open PySem L2
/-! ### a def of two parameters with a __class__ cell, over ValueError: super().__init__(e) and then the rest -/
section
open PySem.W PySem.Calls
def cxS (CX : CXT) (P : Program) (w : World) (K : PySem.W.Frag) (mg : Str → Option Value) (base : Heap) (N : List Str) (qual : Str) (scope : Scope) (f : Addr) (cd : Value) (cc : Addr) (A : Around) (outer : List Env) (s : Shared) (H : Hp) (E : XK) : Cx where
  prog := P
  w := w
  K := K
  mg := mg
  base := base
  A := A.deeper (ksEnv qual scope s.heap.objs.size f cd cc)
  N := N
  s_0 := s
  H_0 := H
  env := ksEnv qual scope s.heap.objs.size f cd cc
  outer := outer
  stack := ksEnv qual scope s.heap.objs.size f cd cc :: outer
  ex := []
  calm := true
  fn := fun _ => false
  pn := []
  xe := fun e s' => wpAny (model P w) (A.deeper (ksEnv qual scope s.heap.objs.size f cd cc)) (leaving (ksEnv qual scope s.heap.objs.size f cd cc) e) (fun _ s'' => CX outer H s E e s'') (fun e' s'' => CX outer H s E e' s'') s'
theorem look1 {x : Str} {cc c : Addr} (h : List.lookup x [(("__class__" : Str), cc)] = some c) : x = "__class__" ∧ c = cc := by
  unfold List.lookup at h
  split at h
  · rename_i e
    exact ⟨by simpa using e, (Option.some.inj h).symm⟩
  · cases h
end

/-! ### a def with a __class__ cell in a class without errors: super().m(e, ..) as a statement of its body -/
section
open PySem.W PySem.Calls
structure ScO (N ps : List Str) (sc : Scope) : Prop where
  kind : sc.kind = .function
  co : sc.isCoroutine = false
  gen : sc.isGenerator = false
  nd : N.Nodup
  pre : N.take ps.length = ps
  par : ∀ x ∈ ps, sc.names.lookup x = some .local
  first : N[0]? = some ("self" : Str)
  self : sc.names.lookup ("self" : Str) = some .local
  cls : sc.names.lookup ("__class__" : Str) = some .free
  sup : sc.names.lookup ("super" : Str) = some .globalImplicit
  nocell : ∀ y ∈ sc.names, y.2 ≠ .cell
  free : ∀ y ∈ sc.names, y.2 = .free → y.1 = "__class__"
theorem lookup_mem {y : Str} {u : Value} : ∀ {l : List (Str × Value)}, (l.map (·.1)).Nodup → (y, u) ∈ l → l.lookup y = some u
  | (z, v) :: l, hn, hm => by
    have hn' := List.nodup_cons.mp hn
    rcases List.mem_cons.mp hm with e | hm
    · cases e
      rw [List.lookup, beq_self_eq_true]
    · have ne : (y == z) = false := by
        simpa using fun q : y = z => hn'.1 (List.mem_map.mpr ⟨(y, u), hm, q⟩)
      rw [List.lookup, ne]
      exact lookup_mem hn'.2 hm
theorem zip_rev {ps : List Str} {us : List Value} {i : Nat} {y : Str} {u : Value} (hn : ps.Nodup) (hl : us.length = ps.length) (hp : ps[i]? = some y) (hu : us[i]? = some u) : (ps.zip us).reverse.lookup y = some u := by
  refine lookup_mem ?_ ?_
  · rw [List.map_reverse, List.map_fst_zip (by omega)]
    exact (List.reverse_perm _).nodup_iff.mpr hn
  · rw [List.mem_reverse]
    have hz : (ps.zip us)[i]? = some (y, u) := by rw [List.getElem?_zip_eq_some]; exact ⟨hp, hu⟩
    exact List.mem_of_getElem? hz
theorem inv_startO {CX : CXT} {P : Program} {w : World} {K : PySem.W.Frag} {mg : Str → Option Value} {base : Heap} {N ps : List Str} {qual : Str} {scope : Scope} {f cc D : Addr} {cd cl : Value} {cld : Option Addr} {csl : Array (Option Value)} {A : Around} {outer : List Env} {s : Shared} {H : Hp} {E : XK}
    {us : List Value} {vs : List V} {h1 : Heap} {t : Nat}
    (S : ScO N ps scope) (hd : A.handled = none) (e0 : Env0 P w K mg base A outer s H) (hl : vs.length = ps.length) (r : Vals vs us) (hc : K.lookup cc = some ⟨cl, cld, .cell (some (.ref D)), csl⟩)
    (hns : h1.Ns s.heap.objs.size (fun y => (ps.zip us).reverse.lookup y)) (hk : ∀ b o, s.heap.get? b = some o → h1.get? b = some o) :
    Inv (cxS CX P w K mg base N qual scope f cd cc A outer s H E) [] (start N vs) H { s with heap := h1, toks := t } := by
  have hpl : ps.length ≤ N.length := by have := congrArg List.length S.pre; rw [List.length_take] at this; omega
  have ndP : ps.Nodup := by rw [← S.pre]; exact S.nd.sublist (List.take_sublist _ _)
  have noA : ∀ b : Addr, b ∉ (cxS CX P w K mg base N qual scope f cd cc A outer s H E).ex := fun b z => absurd (show b ∈ ([] : List Addr) from z) (by simp)
  have cb : base.get? cc = some ⟨cl, cld, .cell (some (.ref D)), csl⟩ := e0.mod.kin _ _ hc
  refine ⟨⟨e0.mod, S.kind, rfl, rfl, Nat.le_refl _, fun y z c h1 h2 => ?_, fun y hy => ?_, fun y c z _ => ?_, fun _ => hd, Around.frames_deeper e0.frames, .inr ⟨rfl, rfl⟩, fun b z => absurd z (noA b), e0.bs, e0.bsz, fun b _ _ => noA b, fun b z => absurd z (noA b), e0.funs, e0.frf⟩,
    rfl, e0.bare, Un.kept hk, ⟨_, hns, fun i y v g1 g2 _ => ?_⟩, fun y c h => ?_, e0.hok.fresh (Nat.le_refl _), fun y c h => ?_, fun p hp => absurd (show p ∈ ([] : List (Addr × Obj)) from hp) (by simp), e0.hok.kept hk, ?_⟩
  · exact (look1 h1).1.trans (look1 h2).1.symm
  · have hy : scope.names.lookup y = some .cell ∨ scope.names.lookup y = some .free := hy
    rcases hy with hy | hy
    · exact absurd rfl (S.nocell _ (PySem.mem_of_lookup hy))
    · have e := S.free _ (PySem.mem_of_lookup hy) rfl
      dsimp only at e
      subst e
      exact ⟨cc, rfl⟩
  · exact absurd (show false = true from z) (by decide)
  · have hi : i < vs.length := by
      unfold L2.start at g2
      by_cases hi : i < vs.length
      · exact hi
      · rw [List.getElem?_append_right (by simpa using hi), List.getElem?_replicate] at g2
        split at g2 <;> cases g2
    have ha : vs[i]? = some v := by
      unfold L2.start at g2
      rw [List.getElem?_append_left (by simpa using hi), List.getElem?_map] at g2
      cases e : vs[i]? with
      | none => rw [e] at g2; cases g2
      | some a => rw [e] at g2; cases g2; rfl
    obtain ⟨u, hu, rv⟩ := r.get ha
    have hp : ps[i]? = some y := by
      rw [← S.pre, List.getElem?_take_of_lt (by omega)]; exact g1
    exact ⟨u, rv, .inl ⟨S.par y (List.mem_of_getElem? hp), zip_rev ndP (by rw [← r.length]; exact hl) hp hu⟩⟩
  · obtain ⟨rfl, rfl⟩ := look1 h
    exact ⟨_, _, hk _ _ (e0.bs _ _ cb).1, rfl⟩
  · obtain ⟨rfl, rfl⟩ := look1 h
    exact (e0.bs _ _ cb).2
  · unfold L2.start
    show _ = N.length
    rw [List.length_append, List.length_map, List.length_replicate]
    omega
/-- statements of a def's own body: they may say super() -/
structure PSsA (X : Cx) (c : Code) (st : List Stmt) (t : TS) : Prop where
  run : ∀ (pins : List (Addr × Obj)) (s : Shared) (σ : St) (H : Hp) (D : Ends), Inv X pins σ H s → t D σ H → _root_.PySem.wpAt (model X.prog X.w) X.A c (execs st X.env) (SP X pins D) X.xe s
theorem psa_of {X : Cx} {c : Code} {st : List Stmt} {t : TS} (h : PSs X st t) : PSsA X c st t := ⟨fun pins s σ H D I q => wpAt_of_wpAny (h.run pins s σ H D I q)⟩
theorem psa_cons {X : Cx} {c : Code} {st : Stmt} {rest : List Stmt} {t u : TS} (h1 : PS X st t) (h2 : PSsA X c rest u) : PSsA X c (st :: rest) (tSeq t u) := by
  refine ⟨fun pins s σ H D I h => ?_⟩
  refine ks_wpAt_execs_cons (wpAt_of_wpAny (thn (h1.run pins s σ H { D with nx := u D } I h) fun f s1 q => ?_))
  cases f with
  | next =>
    obtain ⟨σ', H', I', q⟩ := q
    exact h2.run pins s1 σ' H' D I' q
  | ret v => exact q
  | brk => exact q
  | cont => exact q
/-- a def with a __class__ cell, by its body -/
theorem fn_ofA {CX : CXT} {P : Program} {w : World} {K : PySem.W.Frag} {mg : Str → Option Value} {base : Heap} {k : Nat} {f C cc cda : Addr} {name qual : Str} {N ps : List Str} {params : Arguments} {body : List Stmt} {scope : Scope} {dV kV doc pm ct oc cl : Value} {an od cld : Option Addr} {osl csl : Array (Option Value)} {sp : Sp}
    (lk : K.lookup f = some ⟨oc, od, .func (ksFn name qual params body scope dV kV doc pm an (.ref cda) ct cc), osl⟩) (hcd : codeIn K (.ref cda) qual = true) (S : ScO N ps scope) (hc : K.lookup cc = some ⟨cl, cld, .cell (some (.ref C)), csl⟩)
    (len : ∀ vs H Q E, sp vs H Q E → vs.length = ps.length)
    (hrun : ∀ (A : Around) (outer : List Env) (s : Shared) (H : Hp) (vs : List V) (Q : VK) (E : XK), Room k (A.deeper (ksEnv qual scope s.heap.objs.size f (.ref cda) cc)) → sp vs H Q E →
      ∃ t : TS, PSsA (cxS CX P w K mg base N qual scope f (.ref cda) cc A outer s H E) (.func body (ksEnv qual scope s.heap.objs.size f (.ref cda) cc)) body t ∧ t { nx := fun _ H' => Q .non H', rt := Q } (start N vs) H) :
    FnOk P w K mg base CX (k + 1) f (ksFn name qual params body scope dV kV doc pm an (.ref cda) ct cc) ps sp := by
  refine ⟨len, fun A outer s H args us vs Q E hr e0 hb r hsp => ?_⟩
  obtain ⟨t, hts, hq⟩ := hrun A outer s H vs Q E (hr.deeper _) hsp
  have KX : K.In s.heap := e0.mod.kin.keeps fun b o e => (e0.bs b o e).1
  have lim : s.heap.NoLimit := e0.mod.nolimit.keeps fun b o e => (e0.bs b o e).1
  have hl := len _ _ _ _ hsp
  refine ks_codeAny_call_defAt (fd := ksFn name qual params body scope dV kV doc pm an (.ref cda) ct cc) (binds := ps.zip us) hr.depth (KX _ _ lk) rfl lim (codeRec_of KX hcd) rfl hb S.nocell (fun y hy => S.par _ (List.of_mem_zip hy).1) (fun h1 hns hk => ?_) S.co S.gen S.kind
  have I : Inv (cxS CX P w K mg base N qual scope f (.ref cda) cc A outer s H E) [] (start N vs) H { s with heap := h1, toks := s.toks + (ps.zip us).length } := inv_startO S hr.hd e0 hl r hc hns hk
  refine ks_wpAt_mono (hts.run [] _ _ H _ I hq) (fun fl s' hs => ?_) fun e s' hs => hs
  have fin : ∀ {σ' : St} {H' : Hp} {v : V} {u : Value}, Inv (cxS CX P w K mg base N qual scope f (.ref cda) cc A outer s H E) [] σ' H' s' → RelV v u → Q v H' → CE outer P w H s Q u s' :=
    fun {σ' H' v u} J rv q => ⟨v, H', J.os, J.bare, J.base, J.hok, rv, q⟩
  cases fl with
  | ret u =>
    obtain ⟨v, σ', H', J, rv, q⟩ := hs
    exact fin J rv q
  | next =>
    obtain ⟨σ', H', J, q⟩ := hs
    exact fin (v := V.non) (u := Value.none) J rfl q
  | brk =>
    obtain ⟨_, _, _, q⟩ := hs
    exact False.elim q
  | cont =>
    obtain ⟨_, _, _, q⟩ := hs
    exact False.elim q
/-- what the written part says: D the class of the def, C the object's class, f2 what super() finds -/
structure SupO (file : Str) (K : PySem.W.Frag) (C D cc cda f2 : Addr) (m : Str) (params : Arguments) : Prop where
  cell : ∃ cl cld csl, K.lookup cc = some ⟨cl, cld, .cell (some (.ref D)), csl⟩
  code : ∃ ccl cdd vs ccs, K.lookup cda = some ⟨ccl, cdd, .fields vs, ccs⟩ ∧ ∃ tf : Tok, vs[2]? = some (.str file tf)
  hdD : hasDictIn K D = true
  hdC : hasDictIn K C = true
  mro : mroIn K C (.ref D) = some true
  sup : ks_superIn K C D m = some (some (.ref f2))
  ty : typeIn K (.ref f2) = some (.type "function")
  fi : fnIn K f2 = true
  third : nsIn K cStatics "thirdparty.any" = some none
  par : ∃ ar, (params.posonlyargs ++ params.args).head? = some ar ∧ ar.arg = "self"
theorem psa_super {CX CX2 : CXT} {P : Program} {w : World} {K : PySem.W.Frag} {mg : Str → Option Value} {base : Heap} {k : Nat} {f C D f2 cc cda : Addr} {name qual file m : Str} {N ps ps2 : List Str} {params : Arguments} {body rest : List Stmt} {scope : Scope} {dV kV doc pm ct oc : Value} {an od : Option Addr} {osl : Array (Option Value)} {sp : Sp} {fd2 : FuncData} {E2 : XK}
    {A : Around} {outer : List Env} {s0 : Shared} {H0 : Hp} {E : XK} {e : Expr} {es : List Expr} {ta : TA} {u : TS} {p0 p1 p2 p3 p4 : Pos}
    (lk : K.lookup f = some ⟨oc, od, .func (ksFn name qual params body scope dV kV doc pm an (.ref cda) ct cc), osl⟩) (S : ScO N ps scope) (T : SupO file K C D cc cda f2 m params) (hP : ((P.main.file : Str) == file) = true ∧ (P.main.scope.names.lookup ("super" : Str)).isSome = false) (hz : mg "super" = none)
    (F2 : FnOk P w K mg base CX2 k f2 fd2 ps2 sp) (hr : Room k (A.deeper (ksEnv qual scope s0.heap.objs.size f (.ref cda) cc))) (hb : Binds K fd2 ps2 []) (hx : Passes CX2 (cxS CX P w K mg base N qual scope f (.ref cda) cc A outer s0 H0 E) E2)
    (ha : PA (cxS CX P w K mg base N qual scope f (.ref cda) cc A outer s0 H0 E) (e :: es) ta) (hrest : PSsA (cxS CX P w K mg base N qual scope f (.ref cda) cc A outer s0 H0 E) (.func body (ksEnv qual scope s0.heap.objs.size f (.ref cda) cc)) rest u)
    (hat : (m == ("__class__" : Str)) = false) (pl : Env → Sem Bool) (hst : ∀ env, starEach (e :: es) env = (false, eval e env) :: starEach es env) (hpl : ∀ env, (backTo p3 (starEach es env)).any (·.1) = false)
    (hev : ∀ env, eval (.Call (.Attribute (.Call (.Name "super" p0) [] [] p1) m p2) (e :: es) [] p3) env = (do
      let ov ← attributeBase (.Call (.Name "super" p0) [] [] p1) m env (eval (.Call (.Name "super" p0) [] [] p1) env)
      standAt p2.atName
      let (f, first) ← holding [ov] (getMethod ov m (pl env))
      callWith p3 f first (backTo p3 (starEach (e :: es) env)) [])) (hsw : ∀ env : Env, swapsWith (.Call (.Attribute (.Call (.Name "super" p0) [] [] p1) m p2) (e :: es) [] p3) none p4.line env = pure false) :
    PSsA (cxS CX P w K mg base N qual scope f (.ref cda) cc A outer s0 H0 E) (.func body (ksEnv qual scope s0.heap.objs.size f (.ref cda) cc)) (.Expr (.Call (.Attribute (.Call (.Name "super" p0) [] [] p1) m p2) (e :: es) [] p3) p4 :: rest)
      (fun D' σ H => ∃ (a dx : Addr) (fs : List (Str × V)), σ[0]? = some (some (.ref a)) ∧ H a = some (.ins C dx fs) ∧ ta σ H fun vs H1 => sp (.ref a :: vs) H1 (fun _ H2 => u D' σ H2) E2) := by
  refine ⟨fun pins s σ H D' I h => ?_⟩
  obtain ⟨a, dx, fs, hσ, hae, hq⟩ := h
  obtain ⟨cl, cld, csl, hcell⟩ := T.cell
  obtain ⟨ccl, cdd, vsC, ccs, hcode, tf, hvs⟩ := T.code
  obtain ⟨ar, har, hself⟩ := T.par
  obtain ⟨cdD, hclsD, _⟩ := any_some T.hdD
  obtain ⟨cdC, hclsC, _⟩ := any_some T.hdC
  have KX1 : K.In s.heap := I.kIn
  obtain ⟨mL, hns, hloc⟩ := id I.loc
  have hLs : mL ("self" : Str) = some (.ref a) := by
    obtain ⟨u', ru, hk⟩ := hloc 0 "self" (.ref a) S.first hσ (.inl S.self)
    obtain rfl : u' = Value.ref a := ru
    rcases hk with ⟨_, e⟩ | ⟨q | q, _⟩
    · exact e
    · have q' : scope.names.lookup ("self" : Str) = some .cell := q
      rw [S.self] at q'; cases q'
    · have q' : scope.names.lookup ("self" : Str) = some .free := q
      rw [S.self] at q'; cases q'
  obtain ⟨mA, O, _, _, _, _⟩ := ins_get I.hok hae
  obtain ⟨od', J, _⟩ := O.look
  obtain ⟨oD, hD1, hD2⟩ : ∃ oD, s.heap.get? D = some oD ∧ oD.data = .cls cdD := by
    unfold clsIn at hclsD
    split at hclsD
    · rename_i c d cd' sl ho
      cases hclsD
      exact ⟨_, KX1 _ _ ho, rfl⟩
    · cases hclsD
  refine ks_wpAt_execs_cons ?_
  refine ks_wpAt_Expr_any ?_ (by simp [interactive, cxS, S.kind]) (hsw _)
  refine ks_wpAt_MethodCall ?_ (hev _)
  refine ks_wpAt_super_base (f := f) (cc := cda) (fd := ksFn name qual params body scope dV kV doc pm an (.ref cda) ct cc) S.sup S.cls hat rfl (KX1 _ _ lk) rfl har rfl (KX1 _ _ hcode) rfl hvs hP.1 hP.2 ?_
  rw [hself]
  obtain ⟨mb, hb1, hb2⟩ := I.mod.blt
  refine ks_loadName_global S.kind S.sup (loadGlobal_builtin (I.mod.glob.keeps I.bk) hz (hb1.keeps I.bk) ((hb2 _ (by decide)).trans (by first | boot_by_name | rfl | kernel_rfl)) ⟨rfl, ?_⟩)
  refine wpAny_loadName_free S.kind S.cls (List.lookup_cons_self ..) ⟨_, KX1 _ _ hcell, rfl⟩ ?_
  refine wpAny_loadName_local S.kind S.self hns hLs ?_
  refine ks_wpAny_isType_cls hD1 hD2 ⟨rfl, ?_⟩
  refine ks_wpAny_call_super hD1 hD2 J.at_ J.cls (fun c z => ?_) (looks_mroIn KX1 T.mro) (fun h2 e2 k2 => ?_)
  · have := J.no
    unfold notCls at this
    rw [z] at this
    exact Bool.noConfusion this
  have I1 := I.kept (t' := s.toks) k2
  have KX2 : K.In h2 := I1.kIn
  obtain ⟨mA2, O2, _, _, _, _⟩ := ins_get I1.hok hae
  obtain ⟨od2, J2, _⟩ := O2.look
  obtain ⟨of, hof, hofc⟩ : ∃ of, h2.get? f2 = some of ∧ of.cls = .type "function" := by
    have ht' : (K.lookup f2).map (·.cls) = some (.type "function") := T.ty
    cases z : K.lookup f2 with
    | none => rw [z] at ht'; cases ht'
    | some of => rw [z] at ht'; exact ⟨of, KX2 _ _ z, Option.some.inj ht'⟩
  have hm := T.sup
  unfold ks_superIn at hm
  rw [hclsC] at hm
  refine ks_wpAny_getMethod_super e2 (looks_opaque KX2 T.third) (l₀ := cdC.mro) (fun A Q E s k q => wpAny_bind ((looks_clsIn KX2 hclsC) A _ E s k (wpAny_pure q))) rfl KX2 hm hof hofc (ks_ne KX2 J2 hclsC) hat ?_
  have I2 := I1.kept (t' := s.toks + 1) (h' := h2.push (methodObj (.ref f2) (.ref a))) (fun b o q => Heap.get?_push_of_some _ q)
  have I3 := I2.pins_of (pins' := pins ++ [(h2.objs.size, methodObj (.ref f2) (.ref a))]) (fun p hp => by
    rcases List.mem_append.mp hp with hp | hp
    · exact I2.pin p (List.mem_append_right _ hp)
    · rw [List.mem_singleton.mp hp]
      exact ⟨Heap.get?_push_at rfl rfl, I1.hok.fresh (Nat.le_refl _), Nat.ne_of_gt I1.lt, I1.nofs (Nat.le_refl _), fun v z => by cases z⟩)
  dsimp only
  rw [hst]
  refine callWith_of (P := MethP K h2.objs.size f2 (.ref a)) (by show ((false || (backTo p3 (starEach es _)).any (·.1)) || false) = false; rw [hpl]; rfl) (keeps_M T.fi) ?_
  show wpAny _ _ (evalArgs _ true ((false, _) :: backTo _ _) []) _ _ _
  refine evalArgs_plain ?_
  have hp := ha.run p3 (pins ++ [(h2.objs.size, methodObj (.ref f2) (.ref a))]) _ σ H _ I3 hq
  rw [hst] at hp
  refine thn hp fun us s3 hu => ?_
  obtain ⟨vs, H1, I4, r4, hsp⟩ := hu
  have hpin := (I4.pin (h2.objs.size, methodObj (.ref f2) (.ref a)) (List.mem_append_right _ (List.mem_append_right _ (List.mem_singleton.mpr rfl)))).1
  refine ⟨⟨hpin, I4.kIn⟩, ?_⟩
  have r5 : Vals (V.ref a :: vs) (Value.ref a :: us) := .cons rfl r4
  have hl5 : (Value.ref a :: us ++ []).length = ps2.length := by rw [List.append_nil, ← r5.length]; exact F2.len _ _ _ _ hsp
  have hb5 := hb s3 (Value.ref a :: us) I4.kIn hl5
  rw [List.append_nil] at hb5
  refine wpAny_call (method_call hpin (codeAny_mono (F2.run _ _ s3 H1 ⟨Value.ref a :: us, []⟩ (Value.ref a :: us) (V.ref a :: vs) _ E2 hr I4.env0 hb5 r5 hsp) fun r s' hq => ?_))
  cases r with
  | error er => exact hx _ σ H1 s3 er s' I4 hq
  | ok fl =>
    cases fl with
    | ret u' =>
      obtain ⟨v, H2, I5, _, q2⟩ := I4.after hq
      have I6 := I5.pins_of (pins' := pins) fun p hp => I5.pin p (List.mem_append_right _ (List.mem_append_left _ hp))
      exact hrest.run pins s' σ H2 D' I6 q2
    | next => exact False.elim hq
    | brk => exact False.elim hq
    | cont => exact False.elim hq
end

theorem ints_lay : ∀ ns : List Int, PyData.canLayAll0 (ns.map PyData.int) = true
  | [] => rfl
  | n :: r => by simp [PyData.canLayAll0, PyData.canLay0, ints_lay r]
theorem ints_depth : ∀ ns : List Int, PyData.depthAll (ns.map PyData.int) ≤ 1
  | [] => by simp [PyData.depthAll]
  | n :: r => by
    have h := ints_depth r
    simp [PyData.depthAll, PyData.depth] at h ⊢
    try omega
theorem ints_eqv : ∀ a b : List Int, PyData.eqvAll (a.map PyData.int) (b.map PyData.int) = decide (a = b)
  | [], [] => by simp [PyData.eqvAll]
  | [], _ :: _ => by simp [PyData.eqvAll]
  | _ :: _, [] => by simp [PyData.eqvAll]
  | x :: a, y :: b => by
    have e : (x == y) = decide (x = y) := by by_cases h : x = y <;> simp [h]
    simp [PyData.eqvAll, PyData.eqv, ints_eqv a b, e]
theorem ints_dp {K : PySem.W.Frag} {H : Hp} : ∀ ns : List Int, DpAll K H (ns.map V.int) (ns.map PyData.int)
  | [] => .nil
  | n :: r => .cons (.int n) (ints_dp r)
theorem iteNE {b : Bool} {A B : Prop} (hb : b = true) (h : B) : if (!b) = true then A else B := by
  rw [hb]
  exact iteF h

/-! ### dicts whose keys are tuples of ints, texts and tuples of ints -/
abbrev Item := Sum Key (List Int)
section
variable {prog : Program} {w : World}
inductive ItIs (prog : Program) (w : World) (h : Heap) : Item → Value → Prop
  | key {k : Key} {v : Value} : keyIs k v = true → (∀ x, k = .inr x → PyData.strOk x = true) → ItIs prog w h (.inl k) v
  | one {ns : List Int} {a : Addr} : IsTupleKey (intKind prog w) h ns a → ItIs prog w h (.inr ns) (.ref a)
inductive ItsAre (prog : Program) (w : World) (h : Heap) : List Item → List Value → Prop
  | nil : ItsAre prog w h [] []
  | cons {k : Item} {v : Value} {ks : List Item} {vs : List Value} : ItIs prog w h k v → ItsAre prog w h ks vs → ItsAre prog w h (k :: ks) (v :: vs)
def IsTK (prog : Program) (w : World) (h : Heap) (ks : List Item) (a : Addr) : Prop := ∃ o items n, h.get? a = some o ∧ o.cls = .type "tuple" ∧ o.data = .seq items n ∧ ItsAre prog w h ks items.toList
theorem ItIs.inj {h : Heap} {x y : Item} {v : Value} (hx : ItIs prog w h x v) (hy : ItIs prog w h y v) : x = y := by
  cases hx with
  | key h1 _ =>
    cases hy with
    | key h2 _ => rw [(mixKind prog w).inj _ _ _ h1 h2]
    | one h2 =>
      have := (mixKind prog w).byValue _ _ h1
      cases this
  | one h1 =>
    cases hy with
    | key h2 _ =>
      have := (mixKind prog w).byValue _ _ h2
      cases this
    | one h2 => rw [h1.inj h2]
theorem ItsAre.inj {h : Heap} {x y : List Item} {vs : List Value} (hx : ItsAre prog w h x vs) (hy : ItsAre prog w h y vs) : x = y := by
  induction hx generalizing y with
  | nil => cases hy; rfl
  | cons h1 _ ih => cases hy with | cons h2 t2 => rw [h1.inj h2, ih t2]
theorem IsTK.typeIs {s : Shared} {ks : List Item} {a : Addr} (x : IsTK prog w s.heap ks a) : s.TypeIs (.ref a) "tuple" := let ⟨o, _, _, ho, hc, _⟩ := x; ⟨o, ho, hc⟩
theorem IsTK.inj {h : Heap} {a : Addr} {x y : List Item} (hx : IsTK prog w h x a) (hy : IsTK prog w h y a) : x = y := by
  obtain ⟨o, its, n, h1, _, h2, h3⟩ := hx
  obtain ⟨o', its', n', g1, _, g2, g3⟩ := hy
  rw [h1] at g1
  cases g1
  rw [h2] at g2
  cases g2
  exact h3.inj g3
theorem ItIs.at' {h h' : Heap} {k : Item} {v : Value} (x : ItIs prog w h k v) (hk : ∀ b ks, IsTupleKey (intKind prog w) h ks b → ∀ o, h.get? b = some o → h'.get? b = some o) : ItIs prog w h' k v := by
  cases x with
  | key h1 h2 => exact .key h1 h2
  | one h1 =>
    obtain ⟨o, its, n, g1, g2, g3, g4⟩ := id h1
    exact .one ⟨o, its, n, hk _ _ h1 _ g1, g2, g3, g4⟩
theorem ItsAre.at' {h h' : Heap} {ks : List Item} {vs : List Value} (x : ItsAre prog w h ks vs) (hk : ∀ b ks, IsTupleKey (intKind prog w) h ks b → ∀ o, h.get? b = some o → h'.get? b = some o) : ItsAre prog w h' ks vs := by
  induction x with
  | nil => exact .nil
  | cons a _ ih => exact .cons (a.at' hk) ih
theorem IsTK.keeps {h h' : Heap} {ks : List Item} {a d : Addr} {o : Obj} {es : Array DictEntry} {ep : Nat} (x : IsTK prog w h ks a) (ho : h.get? d = some o) (hd : o.data = .dict es ep) (hs : Heap.SameBut d h h') : IsTK prog w h' ks a := by
  obtain ⟨o', its, n, g1, g2, g3, g4⟩ := x
  have nd : ∀ {b : Addr} {q : Obj} {i : Array Value} {m : Nat}, h.get? b = some q → q.data = .seq i m → b ≠ d := fun {b q i m} e1 e2 z => by
    rw [z, ho] at e1
    cases e1
    rw [hd] at e2
    cases e2
  refine ⟨o', its, n, (hs.2 a (nd g1 g3)).trans g1, g2, g3, g4.at' fun b ks hb o2 e => ?_⟩
  obtain ⟨o3, i3, n3, e1, _, e3, _⟩ := hb
  exact (hs.2 b (nd e1 e3)).trans e
/-- what they say as data -/
def itD : Item → PyData
  | .inl (.inl i) => .int i
  | .inl (.inr x) => .str x
  | .inr ns => .tuple (ns.map .int)
theorem reads_ints {h : Heap} : ∀ {ns : List Int} {vs : List Value}, ItemsAre (intKind prog w) ns vs → ReadsAll h vs (ns.map PyData.int) []
  | [], _, hx => by cases hx; exact .nil
  | n :: ns, _, hx => by
    cases hx with
    | cons h1 h2 =>
      obtain ⟨t, rfl⟩ := Value.isInt_shape h1
      exact .cons (.int n t) (reads_ints h2)
theorem ItIs.reads {h : Heap} {k : Item} {v : Value} (x : ItIs prog w h k v) : Reads h v (itD k) [] := by
  cases x with
  | key h1 _ =>
    rcases keyIs_shape h1 with ⟨i, t, rfl, rfl⟩ | ⟨x, t, rfl, rfl⟩
    · exact .int i t
    · exact .str x t
  | one h1 =>
    obtain ⟨o, its, n, g1, g2, g3, g4⟩ := h1
    exact .tuple g1 g2 g3 (reads_ints g4)
theorem ItsAre.reads {h : Heap} {ks : List Item} {vs : List Value} (x : ItsAre prog w h ks vs) : ReadsAll h vs (ks.map itD) [] := by
  induction x with
  | nil => exact .nil
  | cons a _ ih => exact .cons a.reads ih
theorem IsTK.reads {h : Heap} {ks : List Item} {a : Addr} (x : IsTK prog w h ks a) : Reads h (.ref a) (.tuple (ks.map itD)) [] := by
  obtain ⟨o, its, n, g1, g2, g3, g4⟩ := x
  exact .tuple g1 g2 g3 g4.reads
theorem ItIs.lay {h : Heap} {k : Item} {v : Value} (x : ItIs prog w h k v) : (itD k).canLay0 = true := by
  cases x with
  | @key k _ _ h2 =>
    rcases k with i | x
    · rfl
    · have := h2 x rfl
      simpa [itD, PyData.canLay0] using this
  | one _ => simp [itD, PyData.canLay0, ints_lay]
theorem ItsAre.lay {h : Heap} {ks : List Item} {vs : List Value} (x : ItsAre prog w h ks vs) : PyData.canLayAll0 (ks.map itD) = true := by
  induction x with
  | nil => rfl
  | cons a _ ih => simp [PyData.canLayAll0, a.lay, ih]
theorem itD_depth : ∀ ks : List Item, PyData.depthAll (ks.map itD) ≤ 2
  | [] => by simp [PyData.depthAll]
  | k :: ks => by
    have h := itD_depth ks
    have g : (itD k).depth ≤ 2 := by
      rcases k with (i | x) | ns
      · simp [itD, PyData.depth]
      · simp [itD, PyData.depth]
      · have := ints_depth ns
        simp only [itD, PyData.depth]
        omega
    simp only [List.map_cons, PyData.depthAll]
    omega
theorem itD_eqv : ∀ k l : Item, PyData.eqv (itD k) (itD l) = decide (k = l)
  | .inl (.inl i), .inl (.inl j) => by
    by_cases h : i = j <;> simp [itD, PyData.eqv, h]
  | .inl (.inl i), .inl (.inr x) => by simp [itD, PyData.eqv]
  | .inl (.inl i), .inr ns => by simp [itD, PyData.eqv]
  | .inl (.inr x), .inl (.inl j) => by simp [itD, PyData.eqv]
  | .inl (.inr x), .inl (.inr y) => by
    by_cases h : x = y <;> simp [itD, PyData.eqv, h]
  | .inl (.inr x), .inr ns => by simp [itD, PyData.eqv]
  | .inr ns, .inl (.inl j) => by simp [itD, PyData.eqv]
  | .inr ns, .inl (.inr y) => by simp [itD, PyData.eqv]
  | .inr ns, .inr ms => by
    simp only [itD, PyData.eqv, ints_eqv]
    by_cases h : ns = ms <;> simp [h]
theorem itsD_eqv : ∀ ks ls : List Item, PyData.eqvAll (ks.map itD) (ls.map itD) = decide (ks = ls)
  | [], [] => by simp [PyData.eqvAll]
  | [], _ :: _ => by simp [PyData.eqvAll]
  | _ :: _, [] => by simp [PyData.eqvAll]
  | k :: ks, l :: ls => by simp [PyData.eqvAll, itD_eqv, itsD_eqv ks ls]
/-- their hashes -/
def itH (prog : Program) (w : World) : Item → Int
  | .inl k => keyH w k
  | .inr ns => tupleKeyHash (intKind prog w) ns
def itDr : Item → Nat
  | .inl _ => 1
  | .inr ns => ns.length + 1
theorem ItIs.hash {A : Around} {E : Value → Shared → Prop} {s : Shared} {k : Item} {v : Value} {Q : Int → Shared → Prop} (hu : A.units < cLine) (x : ItIs prog w s.heap k v) (h : Q (itH prog w k) { s with toks := s.toks + itDr k }) : wpAny (model prog w) A (pyHash v) Q E s := by
  cases x with
  | key h1 _ => exact (mixKind prog w).pyHash h1 h
  | one h1 => exact wpAny_pyHash_tuple hu h1 h
def tkH (prog : Program) (w : World) (ks : List Item) : Int := reduceHash (Builtin.Tuple.tupleHashOf (ks.map (itH prog w)))
def tkDr (ks : List Item) : Nat := (ks.map itDr).sum + 1
theorem IsTK.hash {A : Around} {E : Value → Shared → Prop} {s : Shared} {ks : List Item} {a : Addr} {Q : Int → Shared → Prop} (hu : A.units + 1 < cLine) (hk : IsTK prog w s.heap ks a) (h : Q (tkH prog w ks) { s with toks := s.toks + tkDr ks }) :
    wpAny (model prog w) A (pyHash (.ref a)) Q E s := by
  have hT := hk.typeIs
  obtain ⟨o, its, n, ho, _, hd, hi⟩ := hk
  unfold pyHash
  first | unfold pyHashByItsType | skip
  first | refine wpAny_bind (wpAny_cRoomFor_or (.inr (Nat.lt_of_succ_lt hu)) ?_) | skip
  refine wpAny_bind (wpAny_specialOf hT F.slot_tuple_hash.lookup ?_)
  show wpAny _ _ (if (some (Value.builtin "tuple.__hash__") == some Value.none) = true then _ else _) Q E s
  rw [if_neg (by rw [beq_builtin_none]; exact Bool.false_ne_true)]
  refine wpAny_bind (wpAny_specialOf hT F.slot_tuple_hash.lookup ?_)
  show wpAny _ _ (callSpecialIfBoundUnlessNone? (.ref a) "__hash__" _ >>= _) Q E s
  refine wpAny_bind (wpAny_callSpecialIfBoundUnlessNone?_slot hT F.slot_tuple_hash (wpAny_call_entry F.slot_tuple_hash hT F.entry_tuple_hash ?_ (F.args_tuple_hash_1 _)))
  show wpAny _ _ (Builtin.Tuple.tupleItemsOf (.ref a) >>= _) _ _ s
  refine wpAny_bind (wpAny_tupleItemsOf ho hd ?_)
  refine wpAny_bind ?_
  rw [← Array.forIn_toList]
  refine wpAny_forIn_list _
    (fun rest (b : Array Int) s' => ∃ dn lf, ks = dn ++ lf ∧ ItsAre prog w s.heap lf rest ∧ b.toList = dn.map (itH prog w) ∧ s' = { s with toks := s.toks + (dn.map itDr).sum })
    _ ?_ ?_ _ _ ⟨[], ks, rfl, hi, rfl, rfl⟩
  · rintro x rest b s' ⟨dn, lf, rfl, hl, hb, rfl⟩
    cases hl with
    | @cons k _ ks' _ h1 hl' =>
      have e : s.toks + ((dn ++ [k]).map itDr).sum = s.toks + (dn.map itDr).sum + itDr k := by
        rw [List.map_append, List.sum_append, List.map_cons, List.map_nil, List.sum_cons, List.sum_nil]; omega
      refine wpAny_bind (h1.hash (s := { s with toks := s.toks + (dn.map itDr).sum }) hu ?_)
      first
        | exact wpAny_pure ⟨dn ++ [k], ks', by simp, hl', by simp [hb], by rw [e]⟩
        | exact wpAny_bind (wpAny_pure (wpAny_pure ⟨dn ++ [k], ks', by simp, hl', by simp [hb], by rw [e]⟩))
  · rintro b s' ⟨dn, lf, rfl, hl, hb, rfl⟩
    cases hl
    rw [List.append_nil] at h
    show wpAny _ _ (retInt (Builtin.Tuple.tupleHashOf b.toList)) _ _ _
    rw [hb]
    refine wpAny_ret_mkInt ?_
    show wpAny _ _ (if (decide (-(2 : Int) ^ 63 ≤ Builtin.Tuple.tupleHashOf (dn.map (itH prog w))) && decide (Builtin.Tuple.tupleHashOf (dn.map (itH prog w)) < 2 ^ 63)) = true then _ else _) Q E _
    unfold tkH tkDr reduceHash at h
    by_cases hr : (decide (-(2 : Int) ^ 63 ≤ Builtin.Tuple.tupleHashOf (dn.map (itH prog w))) && decide (Builtin.Tuple.tupleHashOf (dn.map (itH prog w)) < 2 ^ 63)) = true
    · rw [if_pos hr]
      rw [if_pos hr] at h
      exact wpAny_pure (by simpa [Nat.add_assoc] using h)
    · rw [if_neg hr]
      rw [if_neg hr] at h
      exact wpAny_bind (wpAny_rule (wpAny_pure (by simpa [Nat.add_assoc] using h)))
theorem IsTK.eq {A : Around} {E : Value → Shared → Prop} {s : Shared} {x y : List Item} {a b : Addr} {Q : Bool → Shared → Prop} (hu : A.units + 4 < cLine) (hx : IsTK prog w s.heap x a) (hy : IsTK prog w s.heap y b) (h : Q (decide (x = y)) s) :
    wpAny (model prog w) A (eqBool (.ref a) (.ref b)) Q E s := by
  have lx : PyData.canLay0 (.tuple (x.map itD)) = true := by
    obtain ⟨_, _, _, _, _, _, g⟩ := hx
    simpa [PyData.canLay0] using g.lay
  have ly : PyData.canLay0 (.tuple (y.map itD)) = true := by
    obtain ⟨_, _, _, _, _, _, g⟩ := hy
    simpa [PyData.canLay0] using g.lay
  refine SeqAt.eqBoolOverData prog w A E s _ _ _ _ _ _ Q hx.reads hy.reads lx ly ?_ ?_
  · have d1 := itD_depth x
    have d2 : (PyData.tuple (x.map itD)).depth ≤ 3 := by
      simp only [PyData.depth]
      omega
    have := Nat.min_le_left (PyData.tuple (x.map itD)).depth (PyData.tuple (y.map itD)).depth
    omega
  · rw [show PyData.eqv (.tuple (x.map itD)) (.tuple (y.map itD)) = decide (x = y) from by rw [PyData.eqv, itsD_eqv]]
    exact h
theorem quiet_tup {M : Model} {A : Around} {E : Value → Shared → Prop} {s : Shared} {a : Addr} {o : Obj} {its : Array Value} {n m : Nat} {Q : Bool → Shared → Prop} (ho : s.heap.get? a = some o) (hc : o.cls = .type "tuple") (hd : o.data = .seq its n)
    (hi : ∀ v ∈ its.toList, ∀ Q' : Bool → Shared → Prop, Q' true s → wpAny M A (eqIsQuiet m v) Q' E s) (h : Q true s) : wpAny M A (eqIsQuiet (m + 1) (.ref a)) Q E s := by
  have hT : s.TypeIs (.ref a) "tuple" := ⟨o, ho, hc⟩
  unfold eqIsQuiet
  refine wpAny_bind (wpAny_specialOf hT F.slot_tuple_eq.lookup ?_)
  show wpAny _ _ (isInstance (.ref a) (.type "tuple") >>= _) _ _ s
  refine wpAny_bind (wpAny_isInstance hT isSubtype_tuple_tuple ?_)
  simp only [Bool.not_true, Bool.false_eq_true, if_false]
  refine wpAny_bind (wpAny_seqItems ho hd ?_)
  refine wpAny_bind ?_
  show wpAny _ _ (forIn its _ _) _ _ s
  rw [← Array.forIn_toList]
  refine wpAny_forIn_list _ (fun rest r s' => r.1 = none ∧ s' = s ∧ ∀ v ∈ rest, v ∈ its.toList) _ ?_ ?_ _ _ ⟨rfl, rfl, fun _ h => h⟩
  · rintro v rest r s' ⟨hr, rfl, hall⟩
    refine wpAny_bind (hi v (hall v List.mem_cons_self) _ ?_)
    simp only [Bool.not_true, Bool.false_eq_true, if_false]
    exact wpAny_pure ⟨rfl, rfl, fun u hu' => hall u (List.mem_cons_of_mem _ hu')⟩
  · rintro ⟨r1, r2⟩ s' ⟨hr, rfl, _⟩
    simp only at hr
    subst hr
    exact wpAny_pure h
theorem ItsAre.mem {h : Heap} {ks : List Item} {vs : List Value} (x : ItsAre prog w h ks vs) : ∀ v ∈ vs, ∃ k, ItIs prog w h k v := by
  induction x with
  | nil => intro v hv; cases hv
  | cons a _ ih =>
    intro v hv
    rcases List.mem_cons.mp hv with rfl | hv
    · exact ⟨_, a⟩
    · exact ih v hv
theorem IsTK.quiet {A : Around} {E : Value → Shared → Prop} {s : Shared} {ks : List Item} {a : Addr} {Q : Bool → Shared → Prop} (hk : IsTK prog w s.heap ks a) (h : Q true s) : wpAny (model prog w) A (eqIsQuiet 8 (.ref a)) Q E s := by
  obtain ⟨o, its, n, ho, hc, hd, hi⟩ := hk
  refine quiet_tup ho hc hd (fun v hv Q' q => ?_) h
  obtain ⟨k, hk⟩ := hi.mem v hv
  cases hk with
  | key h1 _ =>
    rw [eqIsQuiet_byValue _ ((mixKind prog w).byValue _ _ h1)]
    exact wpAny_pure q
  | one h1 =>
    obtain ⟨o2, its2, n2, ho2, hc2, hd2, hi2⟩ := h1
    refine quiet_tup ho2 hc2 hd2 (fun v2 hv2 Q2 q2 => ?_) q
    rw [eqIsQuiet_byValue _ (hi2.byValue v2 hv2)]
    exact wpAny_pure q2
end
def tkKind (prog : Program) (w : World) : HeapKind prog w (List Item) where
  is := IsTK prog w
  hash := tkH prog w
  draws := tkDr
  room := fun A => A.units + 4 < cLine
  inj := fun hx hy => hx.inj hy
  keeps := fun x ho hd hs => x.keeps ho hd hs
  pyHash := fun hu hk h => hk.hash (by omega) h
  eqBool := fun hu hx hy h => hx.eq hu hy h
  quiet := fun hk h => hk.quiet h
/-! ### over the layer -/
/-- a dict of such keys, as far as its own object says -/
def MkD (P : Program) (w : World) (d : Addr) (kvs : List (List Item × Addr × Int)) : HO := .ext fun h => (d == sysModules) = false ∧ (kvs.map (·.1)).Nodup ∧ ∃ (o : Obj) (es : Array DictEntry) (ep : Nat), h.get? d = some o ∧ o.ExactDict ∧ o.data = .dict es ep ∧
  Paired (fun (q : List Item × Addr × Int) (e : DictEntry) => e.hash = tkH P w q.1 ∧ e.key = .ref q.2.1 ∧ ∃ t, e.val = .int q.2.2 t) kvs es.toList
/-- a value's item -/
inductive ItV (K : PySem.W.Frag) (H : Hp) : Item → V → Prop
  | int (i : Int) : ItV K H (.inl (.inl i)) (.int i)
  | str (x : Str) : PyData.strOk x = true → ItV K H (.inl (.inr x)) (.str x)
  | one {ns : List Int} {b : Addr} : SqT K H b (ns.map V.int) → ItV K H (.inr ns) (.ref b)
def KeyAt (K : PySem.W.Frag) (H : Hp) (ks : List Item) (a : Addr) : Prop := ∃ vs : List V, SqT K H a vs ∧ Paired (ItV K H) ks vs
section
variable {X : Cx} {pins : List (Addr × Obj)} {σ : St} {H : Hp} {s : Shared}
theorem inv_its (I : Inv X pins σ H s) : ∀ {ks : List Item} {vs : List V} {us : List Value}, Paired (ItV X.K H) ks vs → Vals vs us → ItsAre X.prog X.w s.heap ks us
  | _, _, _, .nil, r => by cases r; exact .nil
  | _, _, _, .cons hk t, r => by
    cases r with
    | cons ru rt =>
      refine .cons ?_ (inv_its I t rt)
      cases hk with
      | int i =>
        obtain ⟨tk, rfl⟩ := (show ∃ t, _ = Value.int i t from ru)
        exact .key (keyIs_int i tk) (fun x z => nomatch z)
      | str x hx =>
        obtain ⟨tk, rfl⟩ := (show ∃ t, _ = Value.str x t from ru)
        exact .key (keyIs_str x tk) (fun y z => by cases z; exact hx)
      | one hq =>
        obtain rfl := (show _ = Value.ref _ from ru)
        exact .one (I.isT hq)
theorem inv_tk (I : Inv X pins σ H s) {ks : List Item} {a : Addr} (h : KeyAt X.K H ks a) : IsTK X.prog X.w s.heap ks a := by
  obtain ⟨vs, hs, hp⟩ := h
  obtain ⟨its, rv, ⟨o, ho, hc, n, hd⟩, _⟩ := I.tuple hs
  exact ⟨o, its.toArray, n, ho, hc, hd, by simpa using inv_its I hp rv⟩
/-- the number of a key -/
def atK (kvs : List (List Item × Addr × Int)) (ks : List Item) : Option Int := (kvs.find? fun q => decide (q.1 = ks)).map (·.2.2)
abbrev RelK (q : List Item × Addr × Int) (x : List Item × Addr × Value) : Prop := x.1 = q.1 ∧ x.2.1 = q.2.1 ∧ ∃ t, x.2.2 = .int q.2.2 t
theorem atK_rel {kvs : List (List Item × Addr × Int)} {xs : List (List Item × Addr × Value)} (r : Paired RelK kvs xs) (ks : List Item) :
    (atK kvs ks = none → atKey xs ks = none) ∧ ∀ n, atK kvs ks = some n → ∃ p t, atKey xs ks = some p ∧ p.2 = .int n t := by
  induction r with
  | nil => exact ⟨fun _ => rfl, fun n h => by cases h⟩
  | @cons q x kvs xs h t ih =>
    obtain ⟨h1, h2, tk, h3⟩ := h
    by_cases e : q.1 = ks
    · have e2 : x.1 = ks := h1.trans e
      refine ⟨fun z => ?_, fun n z => ?_⟩
      · simp [atK, e] at z
      · simp [atK, e] at z
        refine ⟨x.2, tk, by simp [atKey, e2], ?_⟩
        rw [h3, z]
    · have e2 : ¬ x.1 = ks := fun z => e (h1.symm.trans z)
      refine ⟨fun z => ?_, fun n z => ?_⟩
      · have := ih.1 (by simpa [atK, e] using z)
        simpa [atKey, e2] using this
      · obtain ⟨p, t2, g1, g2⟩ := ih.2 n (by simpa [atK, e] using z)
        exact ⟨p, t2, by simpa [atKey, e2] using g1, g2⟩
theorem mk_xs {P : Program} {w : World} : ∀ {kvs : List (List Item × Addr × Int)} {es : List DictEntry}, Paired (fun (q : List Item × Addr × Int) (e : DictEntry) => e.hash = tkH P w q.1 ∧ e.key = .ref q.2.1 ∧ ∃ t, e.val = .int q.2.2 t) kvs es →
    ∃ xs : List (List Item × Addr × Value), es = xs.map (entryOfKey (tkKind P w)) ∧ Paired RelK kvs xs
  | _, _, .nil => ⟨[], rfl, .nil⟩
  | _, _, @Paired.cons _ _ _ q e _ _ h t => by
    obtain ⟨xs, h1, h2⟩ := mk_xs t
    obtain ⟨g1, g2, tk, g3⟩ := h
    refine ⟨(q.1, q.2.1, e.val) :: xs, ?_, .cons ⟨rfl, rfl, tk, g3⟩ h2⟩
    rw [List.map_cons, ← h1]
    congr 1
    obtain ⟨eh, ek, ev⟩ := e
    dsimp only at g1 g2
    rw [g1, g2]
    rfl
theorem keys_rel {kvs : List (List Item × Addr × Int)} {xs : List (List Item × Addr × Value)} (r : Paired RelK kvs xs) : xs.map (·.1) = kvs.map (·.1) := by
  induction r with
  | nil => rfl
  | cons h _ ih => rw [List.map_cons, List.map_cons, ih, h.1]
theorem mem_rel {kvs : List (List Item × Addr × Int)} {xs : List (List Item × Addr × Value)} (r : Paired RelK kvs xs) : ∀ x ∈ xs, ∃ q ∈ kvs, RelK q x := by
  induction r with
  | nil => intro x hx; cases hx
  | cons h _ ih =>
    intro x hx
    rcases List.mem_cons.mp hx with rfl | hx
    · exact ⟨_, List.mem_cons_self, h⟩
    · obtain ⟨q, hq, hr⟩ := ih x hx
      exact ⟨q, List.mem_cons_of_mem _ hq, hr⟩
theorem inv_mkd (I : Inv X pins σ H s) {d : Addr} {kvs : List (List Item × Addr × Int)} (e : H d = some (MkD X.prog X.w d kvs)) (hk : ∀ q ∈ kvs, KeyAt X.K H q.1 q.2.1) :
    (d == sysModules) = false ∧ ∃ xs, s.heap.DictOfH (tkKind X.prog X.w) d xs ∧ Paired RelK kvs xs := by
  obtain ⟨h1, h2, o, es, ep, h3, h4, h5, h6⟩ := (I.hok d _ e).1
  obtain ⟨xs, g1, g2⟩ := mk_xs h6
  refine ⟨h1, xs, ⟨o, es, ep, h3, h4, h5, g1, fun x hx => ?_, by rw [keys_rel g2]; exact h2⟩, g2⟩
  obtain ⟨q, hq, r1, r2, _⟩ := mem_rel g2 x hx
  rw [r1, r2]
  exact inv_tk I (hk q hq)
theorem mkD_ok {P : Program} {w : World} {H : Hp} {h : Heap} {d : Addr} {kvs : List (List Item × Addr × Int)} {xs : List (List Item × Addr × Value)} (h1 : (d == sysModules) = false) (h2 : h.DictOfH (tkKind P w) d xs) (r : Paired RelK kvs xs) : ObjOk P w H h d (MkD P w d kvs) := by
  obtain ⟨o, es, ep, g1, g2, g3, g4, g5, g6⟩ := h2
  refine ⟨⟨h1, by rw [← keys_rel r]; exact g6, o, es, ep, g1, g2, g3, ?_⟩, ⟨o, g1⟩, fun h1 h2 z k => ?_⟩
  · rw [g4]
    clear g4 g5 g6
    induction r with
    | nil => exact .nil
    | cons hr _ ih =>
      refine .cons ⟨?_, ?_, ?_⟩ ih
      · show tkH P w _ = _
        rw [hr.1]
      · show Value.ref _ = _
        rw [hr.2.1]
      · exact hr.2.2
  · obtain ⟨z1, z2, o, es, ep, z3, z4⟩ := z
    exact ⟨z1, z2, o, es, ep, k _ z3, z4⟩
/-- key not in d -/
def rNinTK (K : PySem.W.Frag) (P : Program) (w : World) : R2 := fun x y H Q => ∃ (a d : Addr) (ks : List Item) (kvs : List (List Item × Addr × Int)), x = .ref a ∧ y = .ref d ∧ KeyAt K H ks a ∧ H d = some (MkD P w d kvs) ∧ (∀ q ∈ kvs, KeyAt K H q.1 q.2.1) ∧ Q (.bl (!(atK kvs ks).isSome)) H
theorem op_ninTK (hu : X.A.units + 64 < cLine) : OpR X (compareOp .NotIn) (rNinTK X.K X.prog X.w) := by
  intro pins s σ H x y v u Q I rx ry h
  obtain ⟨a, d, ks, kvs, rfl, rfl, hk, hd, hq, q⟩ := h
  cases rx
  cases ry
  obtain ⟨lo, xs, hm, r⟩ := inv_mkd I hd hq
  refine PyProof.Rows.wpAny_notIn_heap (knd := tkKind X.prog X.w) (by show X.A.units + 1 + 4 < cLine; omega) (inv_tk I hk) lo hm ?_
  have e : (atKey xs ks).isSome = (atK kvs ks).isSome := by
    obtain ⟨r1, r2⟩ := atK_rel r ks
    cases z : atK kvs ks with
    | none => rw [r1 z]; rfl
    | some n =>
      obtain ⟨p, t, g, _⟩ := r2 n z
      rw [g]; rfl
  rw [e]
  exact ⟨.bl (!(atK kvs ks).isSome), H, I.tok _, rfl, q⟩
/-- d[key] -/
def rIxTK (K : PySem.W.Frag) (P : Program) (w : World) : R2 := fun x y H Q => ∃ (a d : Addr) (ks : List Item) (kvs : List (List Item × Addr × Int)) (n : Int), x = .ref d ∧ y = .ref a ∧ KeyAt K H ks a ∧ H d = some (MkD P w d kvs) ∧ (∀ q ∈ kvs, KeyAt K H q.1 q.2.1) ∧ atK kvs ks = some n ∧ Q (.int n) H
theorem ix_tk (hu : X.A.units + 64 < cLine) : IxR X (rIxTK X.K X.prog X.w) := by
  intro value slice pins s σ H x y v u Q I rx ry h hs
  obtain ⟨a, d, ks, kvs, n, rfl, rfl, hk, hd, hq, hn, q⟩ := h
  cases rx
  cases ry
  obtain ⟨lo, xs, hm, r⟩ := inv_mkd I hd hq
  obtain ⟨p, t, g1, g2⟩ := (atK_rel r ks).2 n hn
  refine PyProof.Rows.subscriptTail_builtinR (x := p.2) hm.typeIs slot_dict_getitem.lookup (wpAny_getItem_heap (knd := tkKind X.prog X.w) (by show X.A.units + 1 + 4 < cLine; omega) (inv_tk I hk) hm g1 ⟨rfl, ?_⟩) hs
  rw [g2]
  exact ⟨.int n, H, I.tok _, ⟨t, rfl⟩, q⟩
/-- d[key] = n, a new key -/
def rSetTK (K : PySem.W.Frag) (P : Program) (w : World) : V → V → V → Hp → (Hp → Prop) → Prop := fun o i v H Q => ∃ (a d : Addr) (ks : List Item) (kvs : List (List Item × Addr × Int)) (n : Int), o = .ref d ∧ i = .ref a ∧ v = .int n ∧ KeyAt K H ks a ∧ H d = some (MkD P w d kvs) ∧
  (∀ q ∈ kvs, KeyAt K H q.1 q.2.1) ∧ atK kvs ks = none ∧ kvs.length ≤ 900 ∧ Q (upd H d (MkD P w d (kvs ++ [(ks, a, n)])))
theorem paired_snoc {kvs : List (List Item × Addr × Int)} {xs : List (List Item × Addr × Value)} (r : Paired RelK kvs xs) {q : List Item × Addr × Int} {x : List Item × Addr × Value} (h : RelK q x) : Paired RelK (kvs ++ [q]) (xs ++ [x]) := r.snoc h
theorem set_tk (hu : X.A.units + 64 < cLine) : PSet X (rSetTK X.K X.prog X.w) := by
  intro pins s σ H o i v ov iv u Q I ro ri rv h
  obtain ⟨a, d, ks, kvs, n, rfl, rfl, rfl, hk, hd, hq, hn, hl, q⟩ := h
  cases ro
  cases ri
  obtain ⟨t, rfl⟩ := rv
  obtain ⟨lo, xs, hm, r⟩ := inv_mkd I hd hq
  have hx : xs.length = kvs.length := (Paired.length r).symm
  refine wpAny_setItem_heap (knd := tkKind X.prog X.w) (by show X.A.units + 1 + 4 < cLine; omega) (inv_tk I hk) hm (fun h' hm' hs' => ?_) (by rw [hx, sizeLine_eq]; omega)
  rw [storedH_new ((atK_rel r ks).1 hn)] at hm'
  have he : ∃ q, h'.get? d = some q := let ⟨q, _, _, hq, _⟩ := hm'; ⟨q, hq⟩
  exact ⟨_, I.write (x := d) (e := d) (t' := s.toks + tkDr ks) (o := MkD X.prog X.w d (kvs ++ [(ks, a, n)])) (by rw [hd]; exact True.intro) (.inl rfl) (fun b q hb z => (hs'.2 b hb).trans z) he (mkD_ok lo hm' (paired_snoc r ⟨rfl, rfl, t, rfl⟩)), q⟩
/-- {} -/
theorem pe_mkd0 {pos : Pos} : PE X (.Dict [] [] pos) (fun _ H Q => ∀ d, H d = none → Q (.ref d) (upd H d (MkD X.prog X.w d []))) := ⟨fun pins s σ H Q I h =>
  wpAny_Dict_empty ⟨.ref s.heap.objs.size, _, I.laid (a := s.heap.objs.size) (o := MkD X.prog X.w s.heap.objs.size []) (t' := s.toks) (fun _ _ q => Heap.get?_push_of_some _ q) (Nat.le_refl _)
    (mkD_ok (beq_eq_false_iff_ne.mpr (Ne.symm (Nat.ne_of_lt I.big))) (Heap.DictOfH.new s.heap) .nil), rfl, h _ (I.hok.fresh (Nat.le_refl _))⟩⟩
end

/-! ### list(zip(a, b)) of two tuples -/
namespace ZL
open PySem.W PySem.Calls
section
variable {prog : Program} {w : World} {A : Around} {E : Value → Shared → Prop} {s : Shared}
/-- a further pair: the one before is out -/
theorem held_item {z TI TO T i1 i2 l1 l2 : Addr} {f : Bool} {oT : Obj} {k1 k2 : Nat} {xs ys : Array Value} {x y : Value} {Q : Option Value → Shared → Prop} (D : ZipApart z TI TO i1 i2 l1 l2)
    (hz : IsZipHeld s.heap z TI TO T f) (hT : s.heap.get? T = some oT) (hTI : IsPair s.heap TI (.ref i1) (.ref i2))
    (h1 : s.heap.IsTupleIter i1 l1 k1) (h2 : s.heap.IsTupleIter i2 l2 k2) (hl1 : s.heap.IsTuple l1 xs) (hl2 : s.heap.IsTuple l2 ys) (hx : xs[k1]? = some x) (hy : ys[k2]? = some y)
    (hQ : ∀ h', IsZipHeld h' z TI TO T true → h'.IsTupleIter i1 l1 (k1 + 1) → h'.IsTupleIter i2 l2 (k2 + 1) → IsPair h' s.heap.objs.size x y → h'.objs.size = s.heap.objs.size + 1 →
      (∀ c o, c ≠ z → c ≠ i1 → c ≠ i2 → s.heap.get? c = some o → h'.get? c = some o) → Q (some (.ref s.heap.objs.size)) { s with heap := h' }) : wpAny (model prog w) A (pyNext (.ref z)) Q E s := by
  have hTy : s.TypeIs (.ref z) "zip" := ⟨_, hz, rfl⟩
  unfold pyNext
  refine wpAny_bind (wpAny_attempt (wpAny_callSpecial?_slot (name := Str.ofString "__next__") hTy F.slot_zip_next (wpAny_call_entry F.slot_zip_next hTy F.entry_zip_next ?_ (F.args_zip_next_1 _))))
  show wpAny _ _ (field (.ref z) 2 >>= _) _ _ _
  refine wpAny_bind (wpAny_field hz rfl (x := .bool false) rfl ?_)
  show wpAny _ _ (field (.ref z) 3 >>= _) _ _ _
  refine wpAny_bind (wpAny_field hz rfl (x := .ref TI) rfl ?_)
  refine wpAny_bind (wpAny_seqItems hTI rfl ?_)
  show wpAny _ _ (Builtin.SmallTypes.ownedTupleIsFree (.ref z) >>= _) _ _ _
  refine wpAny_bind (wpAny_tupleHeld_zip hz hT fun g1 z1 s1 => ?_)
  simp only [Bool.false_eq_true, if_false]
  refine wpAny_bind ?_
  rw [← Array.forIn_toList]
  simp only [List.forIn_cons, List.forIn_nil]
  refine wpAny_bind (wpAny_bind (wpAny_holding ?_))
  show wpAny _ _ (Builtin.SmallTypes.nextOf (.ref i1) >>= _) _ _ _
  refine wpAny_bind (RZ.nextOf_tuple_item (s := { s with heap := g1 }) (h1.extBut s1.extBut D.i1z) (hl1.extBut s1.extBut D.l1z) hx fun g2 i12 s2 => wpAny_pure ?_)
  refine wpAny_pure (wpAny_bind (wpAny_bind (wpAny_holding ?_)))
  show wpAny _ _ (Builtin.SmallTypes.nextOf (.ref i2) >>= _) _ _ _
  refine wpAny_bind (RZ.nextOf_tuple_item (s := { s with heap := g2 }) ((h2.extBut s1.extBut D.i2z).extBut s2.extBut D.i12.symm) ((hl2.extBut s1.extBut D.l2z).extBut s2.extBut D.l2i1) hy fun g3 i23 s3 => wpAny_pure ?_)
  refine wpAny_pure (wpAny_pure ?_)
  show wpAny _ _ (newTuple [x, y] >>= _) _ _ _
  refine wpAny_bind (wpAny_newTuple ?_)
  have hsz : g3.objs.size = s.heap.objs.size := by rw [s3.1, s2.1, s1.1]
  have z3 : IsZipHeld g3 z TI TO T true := s3.extBut _ _ D.i2z.symm (s2.extBut _ _ D.i1z.symm z1)
  have hk : ∀ c o, c ≠ z → c ≠ i1 → c ≠ i2 → s.heap.get? c = some o → g3.get? c = some o := fun c o c1 c2 c3 e => s3.extBut _ _ c3 (s2.extBut _ _ c2 (s1.extBut _ _ c1 e))
  have i13 : g3.IsTupleIter i1 l1 (k1 + 1) := i12.extBut s3.extBut D.i12
  refine wpAny_pure ⟨_, rfl, wpAny_pure ?_⟩
  show Q (some (.ref g3.objs.size)) _
  have hp : IsPair (g3.push { cls := .type "tuple", data := .seq #[x, y] }) g3.objs.size x y := Heap.get?_push_size _ rfl
  have z4 : (g3.push { cls := .type "tuple", data := .seq #[x, y] }).objs.size = g3.objs.size + 1 := Heap.size_push ..
  rw [hsz] at hp z4 ⊢
  exact hQ _ (Heap.get?_push_of_some _ z3) (i13.at fun o e => Heap.get?_push_of_some _ e) (i23.at fun o e => Heap.get?_push_of_some _ e) hp z4 fun c o c1 c2 c3 e => Heap.get?_push_of_some _ (hk c o c1 c2 c3 e)
theorem held_end {z TI TO T i1 i2 l1 l2 : Addr} {f : Bool} {oT : Obj} {k1 : Nat} {xs : Array Value} {Q : Option Value → Shared → Prop} (hh : A.handled = none) (D : ZipApart z TI TO i1 i2 l1 l2)
    (hz : IsZipHeld s.heap z TI TO T f) (hT : s.heap.get? T = some oT) (hTI : IsPair s.heap TI (.ref i1) (.ref i2))
    (h1 : s.heap.IsTupleIter i1 l1 k1) (hl1 : s.heap.IsTuple l1 xs) (hx : xs[k1]? = none)
    (hQ : ∀ h', (∀ c o, c ≠ z → c ≠ i1 → s.heap.get? c = some o → h'.get? c = some o) → Q none { s with heap := h' }) : wpAny (model prog w) A (pyNext (.ref z)) Q E s := by
  have hTy : s.TypeIs (.ref z) "zip" := ⟨_, hz, rfl⟩
  unfold pyNext
  refine wpAny_bind (wpAny_attempt (wpAny_callSpecial?_slot (name := Str.ofString "__next__") hTy F.slot_zip_next (wpAny_call_entry F.slot_zip_next hTy F.entry_zip_next ?_ (F.args_zip_next_1 _))))
  show wpAny _ _ (field (.ref z) 2 >>= _) _ _ _
  refine wpAny_bind (wpAny_field hz rfl (x := .bool false) rfl ?_)
  show wpAny _ _ (field (.ref z) 3 >>= _) _ _ _
  refine wpAny_bind (wpAny_field hz rfl (x := .ref TI) rfl ?_)
  refine wpAny_bind (wpAny_seqItems hTI rfl ?_)
  show wpAny _ _ (Builtin.SmallTypes.ownedTupleIsFree (.ref z) >>= _) _ _ _
  refine wpAny_bind (wpAny_tupleHeld_zip hz hT fun g1 z1 s1 => ?_)
  simp only [Bool.false_eq_true, if_false]
  refine wpAny_bind ?_
  rw [← Array.forIn_toList]
  simp only [List.forIn_cons, List.forIn_nil]
  refine wpAny_bind (wpAny_bind (wpAny_holding ?_))
  show wpAny _ _ (Builtin.SmallTypes.nextOf (.ref i1) >>= _) _ _ _
  refine wpAny_bind (RZ.nextOf_tuple_end (s := { s with heap := g1 }) hh (h1.extBut s1.extBut D.i1z) (hl1.extBut s1.extBut D.l1z) hx fun g2 e s2 he => ?_)
  obtain ⟨o, ho, hc⟩ := he
  refine wpAny_bind (wpAny_isInstance (T := "StopIteration") (b := true) ⟨o, ho, hc⟩ isSubtype_stop ?_)
  exact wpAny_pure (hQ _ fun c o c1 c2 e => s2 _ _ c2 (s1.extBut _ _ c1 e))
/-- the walk's state -/
structure St (xs ys : Array Value) (S z TI TO i1 i2 l1 l2 : Addr) (h : Heap) (i : Nat) : Prop where
  ti : IsPair h TI (.ref i1) (.ref i2)
  it1 : h.IsTupleIter i1 l1 i
  it2 : h.IsTupleIter i2 l2 i
  t1 : h.IsTuple l1 xs
  t2 : h.IsTuple l2 ys
  zp : (IsZip h z TI TO .none ∧ ∃ a b, IsPair h TO a b) ∨ ∃ T f oT, IsZipHeld h z TI TO T f ∧ h.get? T = some oT ∧ T ≠ z ∧ T ≠ i1 ∧ T ≠ i2 ∧ T ≠ S
structure Off (S z TI TO i1 i2 l1 l2 : Addr) : Prop where
  z : S ≠ z
  ti : S ≠ TI
  to : S ≠ TO
  i1 : S ≠ i1
  i2 : S ≠ i2
  l1 : S ≠ l1
  l2 : S ≠ l2
variable {xs ys : Array Value} {S z TI TO i1 i2 l1 l2 : Addr}
theorem St.keep {h h' : Heap} {i : Nat} (x : St xs ys S z TI TO i1 i2 l1 l2 h i) (O : Off S z TI TO i1 i2 l1 l2) (hk : ∀ b o, b ≠ S → h.get? b = some o → h'.get? b = some o) : St xs ys S z TI TO i1 i2 l1 l2 h' i := by
  refine ⟨hk _ _ O.ti.symm x.ti, x.it1.at fun o e => hk _ o O.i1.symm e, x.it2.at fun o e => hk _ o O.i2.symm e, x.t1.at fun o e => hk _ o O.l1.symm e, x.t2.at fun o e => hk _ o O.l2.symm e, ?_⟩
  rcases x.zp with ⟨a, p, q, b⟩ | ⟨T, f, oT, a, b, r1, r2, r3, r4⟩
  · exact .inl ⟨hk _ _ O.z.symm a, p, q, hk _ _ O.to.symm b⟩
  · exact .inr ⟨T, f, oT, hk _ _ O.z.symm a, hk _ _ r4 b, r1, r2, r3, r4⟩
theorem item {i : Nat} {x y : Value} {Q : Option Value → Shared → Prop} (D : ZipApart z TI TO i1 i2 l1 l2) (st : St xs ys S z TI TO i1 i2 l1 l2 s.heap i) (hS : S < s.heap.objs.size) (hx : xs[i]? = some x) (hy : ys[i]? = some y)
    (hQ : ∀ h', St xs ys S z TI TO i1 i2 l1 l2 h' (i + 1) → IsPair h' s.heap.objs.size x y → h'.objs.size = s.heap.objs.size + 1 → (∀ c o, c ≠ z → c ≠ TO → c ≠ i1 → c ≠ i2 → s.heap.get? c = some o → h'.get? c = some o) → Q (some (.ref s.heap.objs.size)) { s with heap := h' }) :
    wpAny (model prog w) A (pyNext (.ref z)) Q E s := by
  have lt : ∀ {c o}, s.heap.get? c = some o → s.heap.objs.size ≠ c := fun e => Nat.ne_of_gt (Heap.lt_size e)
  have n1 : s.heap.objs.size ≠ i1 := let ⟨_, e, _⟩ := st.it1; lt e
  have n2 : s.heap.objs.size ≠ i2 := let ⟨_, e, _⟩ := st.it2; lt e
  rcases st.zp with ⟨hz, a, b, hTO⟩ | ⟨T, f, oT, hz, hT, r1, r2, r3, r4⟩
  · refine RZ.pyNext_zipT_item D hz st.ti hTO st.it1 st.it2 st.t1 st.t2 hx hy fun h' a1 a2 a3 a4 a5 a6 hk => ?_
    refine hQ h' ⟨hk _ _ D.TIz D.TITO D.TIi1 D.TIi2 st.ti, a3, a4, st.t1.at fun o e => hk _ o D.l1z D.l1TO D.l1i1 D.l1i2 e, st.t2.at fun o e => hk _ o D.l2z D.l2TO D.l2i1 D.l2i2 e, .inr ⟨s.heap.objs.size, false, _, a1, a5, lt hz, n1, n2, Nat.ne_of_gt hS⟩⟩ a5 a6 hk
  · refine held_item D hz hT st.ti st.it1 st.it2 st.t1 st.t2 hx hy fun h' a1 a3 a4 a5 a6 hk => ?_
    exact hQ h' ⟨hk _ _ D.TIz D.TIi1 D.TIi2 st.ti, a3, a4, st.t1.at fun o e => hk _ o D.l1z D.l1i1 D.l1i2 e, st.t2.at fun o e => hk _ o D.l2z D.l2i1 D.l2i2 e, .inr ⟨T, true, oT, a1, hk _ _ r1 r2 r3 hT, r1, r2, r3, r4⟩⟩ a5 a6 fun c o c1 _ c3 c4 e => hk c o c1 c3 c4 e
theorem done {i : Nat} {Q : Option Value → Shared → Prop} (hh : A.handled = none) (D : ZipApart z TI TO i1 i2 l1 l2) (st : St xs ys S z TI TO i1 i2 l1 l2 s.heap i) (hx : xs[i]? = none)
    (hQ : ∀ h', (∀ c o, c ≠ z → c ≠ TO → c ≠ i1 → c ≠ i2 → s.heap.get? c = some o → h'.get? c = some o) → Q none { s with heap := h' }) : wpAny (model prog w) A (pyNext (.ref z)) Q E s := by
  rcases st.zp with ⟨hz, a, b, hTO⟩ | ⟨T, f, oT, hz, hT, r1, r2, r3, r4⟩
  · exact RZ.pyNext_zipT_end hh D hz st.ti hTO st.it1 st.it2 st.t1 st.t2 (.inl hx) hQ
  · exact held_end hh D hz hT st.ti st.it1 st.t1 hx fun h' hk => hQ h' fun c o c1 _ c3 _ e => hk c o c1 c3 e
/-- what the new tuples say -/
structure Gp (xs ys : Array Value) (lo : Addr) (h : Heap) (as : List Addr) : Prop where
  rise : as.Pairwise (· < ·)
  above : ∀ a ∈ as, lo < a
  pairs : ∀ (j : Nat) (a : Addr), as[j]? = some a → ∃ x y, xs[j]? = some x ∧ ys[j]? = some y ∧ IsPair h a x y
theorem Gp.there {lo : Addr} {h : Heap} {as : List Addr} (g : Gp xs ys lo h as) {a : Addr} (ha : a ∈ as) : a < h.objs.size := by
  obtain ⟨j, hj⟩ := List.mem_iff_getElem?.mp ha
  obtain ⟨_, _, _, _, e⟩ := g.pairs j a hj
  exact Heap.lt_size e
abbrev Kept (S z TO i1 i2 : Addr) (h h' : Heap) : Prop := ∀ b o, b ≠ S → b ≠ z → b ≠ TO → b ≠ i1 → b ≠ i2 → h.get? b = some o → h'.get? b = some o
theorem loop {R : Result → Shared → Prop} {lo : Addr} (hh : A.handled = none) (D : ZipApart z TI TO i1 i2 l1 l2) (O : Off S z TI TO i1 i2 l1 l2) (hlo : S ≤ lo ∧ z ≤ lo ∧ TO ≤ lo ∧ i1 ≤ lo ∧ i2 ≤ lo) (hxy : xs.size = ys.size) (hn : xs.size ≤ 1000) (res : Value) {h₁ : Heap}
    (hR : ∀ h' tk acc c as, Kept S z TO i1 i2 h₁ h' → h'.get? S = some { cls := .type "list", dict := none, data := .seq acc c, slots := #[] } → as.length = xs.size → Gp xs ys lo h' as →
      acc.toList = as.map Value.ref → R (.ok (.ret res)) { s with heap := h', toks := tk }) :
    ∀ (k i : Nat) (h : Heap) (tk c : Nat) (acc : Array Value) (as : List Addr), xs.size - i = k → i ≤ xs.size → St xs ys S z TI TO i1 i2 l1 l2 h i → Kept S z TO i1 i2 h₁ h →
      h.get? S = some { cls := .type "list", dict := none, data := .seq acc c, slots := #[] } → acc.toList = as.map Value.ref → as.length = i → Gp xs ys lo h as → lo < h.objs.size →
      codeAny (model prog w) A (.builtin "list.extend.loop" ⟨[.ref S, .ref z, res], []⟩) R { s with heap := h, toks := tk } := by
  have off : ∀ {a : Addr}, lo < a → a ≠ S ∧ a ≠ z ∧ a ≠ TO ∧ a ≠ i1 ∧ a ≠ i2 := fun h => by
    obtain ⟨q1, q2, q3, q4, q5⟩ := hlo
    exact ⟨Nat.ne_of_gt (Nat.lt_of_le_of_lt q1 h), Nat.ne_of_gt (Nat.lt_of_le_of_lt q2 h), Nat.ne_of_gt (Nat.lt_of_le_of_lt q3 h), Nat.ne_of_gt (Nat.lt_of_le_of_lt q4 h), Nat.ne_of_gt (Nat.lt_of_le_of_lt q5 h)⟩
  intro k
  induction k with
  | zero =>
    intro i h tk c acc as hk hi st hkeep hS hacc hal hG hIs
    refine codeAny_builtin PySem.F.entry_extend_loop ?_
    rw [Around.under_plainId PySem.F.plain_extend_loop _]
    show wpAny _ A.in1 (pyNext (.ref z) >>= _) _ _ _
    refine wpAny_bind (done (s := { s with heap := h, toks := tk }) (A := A.in1) hh D st (by simp; omega) fun h' he => ?_)
    refine wpAny_pure (hR h' tk acc c as (fun b o h1 h2 h3 h4 h5 e => he b o h2 h3 h4 h5 (hkeep b o h1 h2 h3 h4 h5 e)) (he S _ O.z O.to O.i1 O.i2 hS) (by omega) ⟨hG.rise, hG.above, fun j a hj => ?_⟩ hacc)
    obtain ⟨x, y, e1, e2, e3⟩ := hG.pairs j a hj
    obtain ⟨_, n2, n3, n4, n5⟩ := off (hG.above a (List.mem_of_getElem? hj))
    exact ⟨x, y, e1, e2, he a _ n2 n3 n4 n5 e3⟩
  | succ k ih =>
    intro i h tk c acc as hk hi st hkeep hS hacc hal hG hIs
    have hlt : i < xs.size := by omega
    obtain ⟨x, hx⟩ : ∃ x, xs[i]? = some x := ⟨xs[i], Array.getElem?_eq_getElem hlt⟩
    obtain ⟨y, hy⟩ : ∃ y, ys[i]? = some y := ⟨ys[i], Array.getElem?_eq_getElem (by omega)⟩
    have hsz : acc.size = i := by rw [← Array.length_toList, hacc, List.length_map, hal]
    refine codeAny_builtin PySem.F.entry_extend_loop ?_
    rw [Around.under_plainId PySem.F.plain_extend_loop _]
    show wpAny _ A.in1 (pyNext (.ref z) >>= _) _ _ _
    refine wpAny_bind (item (s := { s with heap := h, toks := tk }) (S := S) D st (Heap.lt_size hS) hx hy fun h' st' ht hz hkp => ?_)
    dsimp only at ht hz hkp ⊢
    have hS' := hkp S _ O.z O.to O.i1 O.i2 hS
    have up : ∀ b o, b ≠ S → h'.get? b = some o → (h'.update S (Obj.mapSeq (·.push (Value.ref h.objs.size)))).get? b = some o := fun b o hb e => (Heap.get?_update_other _ _ (Ne.symm hb)).trans e
    have hSl : S < h.objs.size := Heap.lt_size hS
    show wpAny _ A.in1 (updateSeq S (·.push (Value.ref h.objs.size)) >>= _) _ _ _
    refine wpAny_bind ?_
    refine wpAny_updateSeq hS' rfl (wpAny_pure ⟨plainId_quiet PySem.F.plain_extend_loop _, ih (i + 1) _ tk _ (acc.push (Value.ref h.objs.size)) (as ++ [h.objs.size]) (by omega) hlt (st'.keep O up)
      (fun b o h1 h2 h3 h4 h5 e => up b o h1 (hkp b o h2 h3 h4 h5 (hkeep b o h1 h2 h3 h4 h5 e))) (Heap.get?_update_self _ hS' rfl) (by rw [Array.toList_push, hacc, List.map_append]; rfl) (by rw [List.length_append, hal]; rfl) ⟨?_, ?_, ?_⟩ ?_⟩)
      (by rw [hsz, sizeLine_eq]; omega) (by show (acc.push (Value.ref h.objs.size)).size ≤ sizeLine + 1; rw [Array.size_push, hsz, sizeLine_eq]; omega)
    · refine List.pairwise_append.mpr ⟨hG.rise, List.pairwise_singleton _ _, fun a ha b hb => ?_⟩
      rw [List.mem_singleton.mp hb]
      exact hG.there ha
    · intro a ha
      rcases List.mem_append.mp ha with ha | ha
      · exact hG.above a ha
      · rw [List.mem_singleton.mp ha]; exact hIs
    · intro j b hj
      rcases Nat.lt_trichotomy j as.length with g1 | g1 | g1
      · rw [List.getElem?_append_left g1] at hj
        obtain ⟨x', y', e1, e2, e3⟩ := hG.pairs j b hj
        obtain ⟨n1, n2, n3, n4, n5⟩ := off (hG.above b (List.mem_of_getElem? hj))
        exact ⟨x', y', e1, e2, up b _ n1 (hkp b _ n2 n3 n4 n5 e3)⟩
      · subst g1
        have hb : h.objs.size = b := by simpa using hj
        subst hb
        exact ⟨x, y, by rw [hal]; exact hx, by rw [hal]; exact hy, up _ _ (Nat.ne_of_gt hSl) ht⟩
      · have hnone : (as ++ [h.objs.size])[j]? = none := List.getElem?_eq_none (by rw [List.length_append, List.length_singleton]; omega)
        rw [hnone] at hj; cases hj
    · have e : (h'.update S (Obj.mapSeq (·.push (Value.ref h.objs.size)))).get? h.objs.size = _ := up _ _ (Nat.ne_of_gt hSl) ht
      exact Nat.lt_trans hIs (Heap.lt_size e)
theorem zip_nolen : typeLookup (.type "zip") "__len__" = pure none := by rw [typeLookup_type, builtinLookup_eq_fast]; kernel_rfl
theorem zip_nohint : typeLookup (.type "zip") "__length_hint__" = pure none := by rw [typeLookup_type, builtinLookup_eq_fast]; kernel_rfl
theorem hint (hT : s.TypeIs (.ref z) "zip") {Q : Bool → Shared → Prop} (h : ∀ b, Q b s) : wpAny (model prog w) A (Builtin.List.listLengthHint (.ref z)) Q E s := by
  unfold Builtin.List.listLengthHint
  refine wpAny_bind (wpAny_specialOf hT zip_nolen ?_)
  show wpAny _ A (specialOf (Value.ref z) (Str.ofString "__length_hint__") >>= _) _ _ _
  refine wpAny_bind (wpAny_specialOf hT zip_nohint ?_)
  exact wpAny_pure (h _)
theorem extend {R : Result → Shared → Prop} (hh : A.handled = none) (D : ZipApart z TI TO i1 i2 l1 l2) (O : Off S z TI TO i1 i2 l1 l2) (hlo : z ≤ S ∧ TO ≤ S ∧ i1 ≤ S ∧ i2 ≤ S) (hxy : xs.size = ys.size) (hn : xs.size ≤ 1000) (res : Value) (c₀ : Nat)
    (st : St xs ys S z TI TO i1 i2 l1 l2 s.heap 0) (hz : IsZip s.heap z TI TO .none) (hS : s.heap.get? S = some { cls := .type "list", data := .seq #[] c₀ }) (hSz : S < s.heap.objs.size)
    (hR : ∀ h' tk acc c as, Kept S z TO i1 i2 s.heap h' → h'.get? S = some { cls := .type "list", dict := none, data := .seq acc c, slots := #[] } → as.length = xs.size → Gp xs ys S h' as →
      acc.toList = as.map Value.ref → R (.ok (.ret res)) { s with heap := h', toks := tk }) :
    wpAny (model prog w) A.in1 (Builtin.List.listExtendWith (.ref S) (.ref z) res)
      (fun fin s' => match fin with | .done f => R (.ok f) s' | .again c' => c'.quiet = true ∧ codeAny (model prog w) A c' R s') (fun e s' => R (.error e) s') s := by
  have hT : s.TypeIs (.ref z) "zip" := ⟨_, hz, rfl⟩
  have key : ∀ (h : Heap) (c₁ tk : Nat), (∀ b o, b ≠ S → s.heap.get? b = some o → h.get? b = some o) → h.get? S = some { cls := .type "list", data := .seq #[] c₁ } → codeAny (model prog w) A (.builtin "list.extend.loop" ⟨[.ref S, .ref z, res], []⟩) R { s with heap := h, toks := tk } := by
    intro h c₁ tk hk hS₁
    refine loop (s := s) (lo := S) (h₁ := s.heap) hh D O ⟨Nat.le_refl _, hlo⟩ hxy hn res hR xs.size 0 h tk c₁ #[] [] (Nat.sub_zero _) (Nat.zero_le _) (st.keep O hk) (fun b o hb _ _ _ _ e => hk b o hb e) hS₁ rfl rfl
      ⟨List.Pairwise.nil, (fun _ ha => nomatch ha), (fun j a hj => by simp at hj)⟩ (Heap.lt_size hS₁)
  unfold Builtin.List.listExtendWith
  refine wpAny_bind (wpAny_typeOf hT ?_)
  have b1 : Builtin.List.listSameRef (.ref S) (.ref z) = false := by simp [Builtin.List.listSameRef, O.z]
  have b2 : (Value.type "zip" == Value.type "list") = false := by decide
  have b3 : (Value.type "zip" == Value.type "tuple") = false := by decide
  simp only [b1, b2, b3, Bool.or_false, Bool.false_eq_true, if_false]
  refine wpAny_bind (wpAny_pyIter_zip hz ?_)
  refine wpAny_bind (wpAny_holding (hint hT fun b => ?_))
  refine wpAny_ite_split (fun _ => ?_) (fun _ => wpAny_pure ⟨plainId_quiet PySem.F.plain_extend_loop _, key _ c₀ _ (fun b o _ e => e) hS⟩)
  refine wpAny_bind (wpAny_rule (wpAny_bind ?_))
  show wpAny _ _ (updateSeq S (·.push .none) >>= fun _ => updateSeq S (·.pop)) _ _ _
  refine wpAny_bind (wpAny_updateSeq hS rfl ?_)
  have e2 := Heap.get?_update_self (Obj.mapSeq (·.push Value.none)) hS rfl
  refine wpAny_updateSeq (hz := by seq_fits) e2 rfl ?_
  have e3 := Heap.get?_update_self (Obj.mapSeq (·.pop)) e2 rfl
  exact wpAny_pure ⟨plainId_quiet PySem.F.plain_extend_loop _, key _ _ _ (fun b o hb e => (Heap.get?_update_other _ _ (Ne.symm hb)).trans ((Heap.get?_update_other _ _ (Ne.symm hb)).trans e)) e3⟩
theorem call_list {Q : Value → Shared → Prop} (hh : A.handled = none) (D : ZipApart z TI TO i1 i2 l1 l2) (hxy : xs.size = ys.size) (hn : xs.size ≤ 1000)
    (ti : IsPair s.heap TI (.ref i1) (.ref i2)) (j1 : s.heap.IsTupleIter i1 l1 0) (j2 : s.heap.IsTupleIter i2 l2 0) (t1 : s.heap.IsTuple l1 xs) (t2 : s.heap.IsTuple l2 ys) (hz : IsZip s.heap z TI TO .none) {a b : Value} (to : IsPair s.heap TO a b)
    (hQ : ∀ h' tk acc c as, (∀ b o, b ≠ z → b ≠ TO → b ≠ i1 → b ≠ i2 → s.heap.get? b = some o → h'.get? b = some o) → h'.get? s.heap.objs.size = some { cls := .type "list", dict := none, data := .seq acc c, slots := #[] } → as.length = xs.size → Gp xs ys s.heap.objs.size h' as →
      acc.toList = as.map Value.ref → Q (.ref s.heap.objs.size) { s with heap := h', toks := tk }) : wpAny (model prog w) A (call (.type "list") [.ref z]) Q E s := by
  refine callType_codes (Q₁ := fun obj s₁ => obj = .ref s.heap.objs.size ∧ s₁ = { s with heap := s.heap.push { cls := .type "list", data := .seq #[] } }) PySem.F.called_list (PySem.F.typeCall_list_1 _) PySem.F.entry_list_init
    (code_list_new _ ⟨rfl, rfl⟩) fun obj s₁ h₁ => ?_
  obtain ⟨rfl, rfl⟩ := h₁
  have hS : (s.heap.push { cls := .type "list", data := .seq #[] }).get? s.heap.objs.size = some { cls := .type "list", data := .seq #[] } := Heap.get?_push_size _ rfl
  have lt : ∀ {c : Addr} {o : Obj}, s.heap.get? c = some o → c < s.heap.objs.size := fun e => Heap.lt_size e
  have n1 : i1 < s.heap.objs.size := let ⟨_, e, _⟩ := j1; lt e
  have n2 : i2 < s.heap.objs.size := let ⟨_, e, _⟩ := j2; lt e
  have n3 : l1 < s.heap.objs.size := let ⟨_, e, _⟩ := t1; lt e
  have n4 : l2 < s.heap.objs.size := let ⟨_, e, _⟩ := t2; lt e
  have O : Off s.heap.objs.size z TI TO i1 i2 l1 l2 := ⟨Nat.ne_of_gt (lt hz), Nat.ne_of_gt (lt ti), Nat.ne_of_gt (lt to), Nat.ne_of_gt n1, Nat.ne_of_gt n2, Nat.ne_of_gt n3, Nat.ne_of_gt n4⟩
  refine ⟨⟨_, hS, rfl⟩, PySem.F.args_list_init_2 _ _, ?_⟩
  show wpAny _ _ (do let old ← Builtin.List.listItems (.ref s.heap.objs.size); Builtin.List.listUpdate (.ref s.heap.objs.size) (fun _ => #[]); letGo old.toList.reverse; Builtin.List.listExtendWith (.ref s.heap.objs.size) (.ref z) .none) _ _ _
  refine wpAny_bind ?_
  unfold Builtin.List.listItems
  refine wpAny_bind (wpAny_seqItems hS rfl (wpAny_pure ?_))
  show wpAny _ _ (updateSeq s.heap.objs.size (fun _ => #[]) >>= fun _ => letGo (#[] : Array Value).toList.reverse >>= fun _ => Builtin.List.listExtendWith (.ref s.heap.objs.size) (.ref z) .none) _ _ _
  refine wpAny_bind (wpAny_updateSeq hS rfl ?_)
  have hS₂ := Heap.get?_update_self (Obj.mapSeq (fun _ => (#[] : Array Value))) hS rfl
  have oth : ∀ b o, s.heap.get? b = some o → ((s.heap.push { cls := .type "list", data := .seq #[] }).update s.heap.objs.size (Obj.mapSeq (fun _ => (#[] : Array Value)))).get? b = some o :=
    fun b o e => (Heap.get?_update_other _ _ (Nat.ne_of_gt (lt e))).trans (Heap.get?_push_of_some _ e)
  refine wpAny_bind (wpAny_letGo ?_)
  refine extend (A := A.in1) hh D O ⟨Nat.le_of_lt (lt hz), Nat.le_of_lt (lt to), Nat.le_of_lt n1, Nat.le_of_lt n2⟩ hxy hn .none _ ⟨oth _ _ ti, j1.at fun o e => oth _ o e, j2.at fun o e => oth _ o e, t1.at fun o e => oth _ o e, t2.at fun o e => oth _ o e, .inl ⟨oth _ _ hz, _, _, oth _ _ to⟩⟩ (oth _ _ hz) hS₂ (Heap.lt_size hS₂) (fun h' tk acc c as hk hS' hl hG hacc => ?_)
  exact ⟨rfl, hQ h' tk acc c as (fun b o h1 h2 h3 h4 e => hk b o (Nat.ne_of_lt (lt e)) h1 h2 h3 h4 (oth b o e)) hS' hl hG hacc⟩
end
end ZL

/-! ### the rule -/
def putP (H : Hp) (as : List Addr) (ps : List (V × V)) : Hp := fun b => match (as.zip ps).lookup b with | some p => some (.tup [p.1, p.2]) | none => H b
theorem lookup_off {b : Addr} : ∀ {as : List Addr} {ps : List (V × V)}, b ∉ as → (as.zip ps).lookup b = none
  | [], _, _ => rfl
  | _ :: _, [], _ => rfl
  | a :: as, p :: ps, h => by
    have e : (b == a) = false := by simpa using fun z => h (by rw [z]; exact List.mem_cons_self)
    rw [List.zip_cons_cons, List.lookup, e]
    exact lookup_off fun z => h (List.mem_cons_of_mem _ z)
theorem lookup_at : ∀ {as : List Addr} {ps : List (V × V)} {j : Nat} {a : Addr} {p : V × V}, as.Nodup → as[j]? = some a → ps[j]? = some p → (as.zip ps).lookup a = some p
  | [], _, _, _, _, _, h, _ => by simp at h
  | _ :: _, [], _, _, _, _, _, h => by simp at h
  | b :: as, q :: ps, 0, a, p, _, h1, h2 => by
    cases h1
    cases h2
    rw [List.zip_cons_cons, List.lookup, beq_self_eq_true]
  | b :: as, q :: ps, j + 1, a, p, hn, h1, h2 => by
    have hn' := List.nodup_cons.mp hn
    have h1' : as[j]? = some a := h1
    have e : (a == b) = false := by simpa using fun z : a = b => hn'.1 (z ▸ List.mem_of_getElem? h1')
    rw [List.zip_cons_cons, List.lookup, e]
    exact lookup_at hn'.2 h1' h2
theorem vals_refs' : ∀ as : List Addr, Vals (as.map V.ref) (as.map Value.ref)
  | [] => .nil
  | _ :: as => .cons rfl (vals_refs' as)
theorem zip_laid {X : Cx} {pins : List (Addr × Obj)} {σ : L2.St} {H : Hp} {s : Shared} {h' : Heap} {tk : Nat} {xs ys : List V} {us ws : List Value} {acc : Array Value} {c : Nat} {S : Addr} {as : List Addr} (I : Inv X pins σ H s) (rx : Vals xs us) (ry : Vals ys ws) (hn : xs.length ≤ 900)
    (hk : ∀ b o, s.heap.get? b = some o → h'.get? b = some o) (hSz : s.heap.objs.size ≤ S) (hS : h'.get? S = some { cls := .type "list", dict := none, data := .seq acc c, slots := #[] }) (hl : as.length = xs.length) (hG : ZL.Gp us.toArray ws.toArray S h' as) (hacc : acc.toList = as.map Value.ref) :
    Inv X pins σ (upd (putP H as (xs.zip ys)) S (.lst (as.map V.ref))) { s with heap := h', toks := tk } ∧ Same H (upd (putP H as (xs.zip ys)) S (.lst (as.map V.ref))) ∧ (∀ (j : Nat) (a : Addr) (x y : V), as[j]? = some a → xs[j]? = some x → ys[j]? = some y → upd (putP H as (xs.zip ys)) S (.lst (as.map V.ref)) a = some (.tup [x, y])) := by
  have nd : as.Nodup := List.Pairwise.imp (fun {a b} (h : a < b) => Nat.ne_of_lt h) hG.rise
  have new : ∀ t ∈ as, H t = none := fun t ht => I.hok.fresh (Nat.le_of_lt (Nat.lt_of_le_of_lt hSz (hG.above t ht)))
  have newS : H S = none := I.hok.fresh hSz
  have hSn : S ∉ as := fun z => Nat.lt_irrefl _ (hG.above _ z)
  have off : ∀ b, b ∉ as → b ≠ S → upd (putP H as (xs.zip ys)) S (.lst (as.map V.ref)) b = H b := fun b h1 h2 => by rw [upd_ne h2]; unfold putP; rw [lookup_off h1]
  have kp : ∀ b u, H b = some u → upd (putP H as (xs.zip ys)) S (.lst (as.map V.ref)) b = some u := fun b u e => by
    rw [off b (fun z => by rw [new b z] at e; cases e) (fun z => by rw [z, newS] at e; cases e)]
    exact e
  have at' : ∀ (j : Nat) (a : Addr) (x y : V), as[j]? = some a → xs[j]? = some x → ys[j]? = some y → upd (putP H as (xs.zip ys)) S (.lst (as.map V.ref)) a = some (.tup [x, y]) := fun j a x y h1 h2 h3 => by
    have ne : a ≠ S := fun z => hSn (z ▸ List.mem_of_getElem? h1)
    have hz : (xs.zip ys)[j]? = some (x, y) := by rw [List.getElem?_zip_eq_some]; exact ⟨h2, h3⟩
    rw [upd_ne ne]
    unfold putP
    rw [lookup_at nd h1 hz]
  refine ⟨?_, kp, at'⟩
  refine I.call' (ch := []) rfl ⟨fun b o q _ _ _ => hk b o q, fun b o q _ _ _ => ⟨o.slots, hk b o q⟩, fun b o q n _ => ?_, fun b o q _ => ⟨o, hk b o q⟩, fun b xs q => kp b _ q, fun b o u q => kp b _ q, fun b ps q => ⟨#[], by rw [kp b _ q]; simp⟩⟩ (fun b u q => ?_) I.bare fun b z => by simp at z
  · have lb := Heap.lt_size q
    rw [off b (fun z => absurd lb (Nat.not_lt.mpr (Nat.le_of_lt (Nat.lt_of_le_of_lt hSz (hG.above b z))))) (Nat.ne_of_lt (Nat.lt_of_lt_of_le lb hSz))]
    exact n
  · by_cases hb : b ∈ as
    · obtain ⟨j, hj⟩ := List.mem_iff_getElem?.mp hb
      obtain ⟨vx, vy, e1, e2, e3⟩ := hG.pairs j b hj
      rw [List.getElem?_toArray] at e1 e2
      obtain ⟨x, g1, r1⟩ : ∃ x, xs[j]? = some x ∧ RelV x vx := by
        have hj1 : j < xs.length := by rw [rx.length]; exact (List.getElem?_eq_some_iff.mp e1).1
        obtain ⟨u, hu, ru⟩ := rx.get (List.getElem?_eq_getElem hj1)
        rw [e1] at hu
        cases hu
        exact ⟨_, List.getElem?_eq_getElem hj1, ru⟩
      obtain ⟨y, g2, r2⟩ : ∃ y, ys[j]? = some y ∧ RelV y vy := by
        have hj1 : j < ys.length := by rw [ry.length]; exact (List.getElem?_eq_some_iff.mp e2).1
        obtain ⟨u, hu, ru⟩ := ry.get (List.getElem?_eq_getElem hj1)
        rw [e2] at hu
        cases hu
        exact ⟨_, List.getElem?_eq_getElem hj1, ru⟩
      rw [at' j b x y hj g1 g2] at q
      cases q
      exact ⟨by show 2 ≤ sizeLine; decide, [vx, vy], .cons r1 (.cons r2 .nil), ⟨_, e3, rfl, _, rfl⟩⟩
    · by_cases hb2 : b = S
      · rw [hb2] at q ⊢
        rw [upd_same] at q
        cases q
        refine ⟨by rw [List.length_map, hl, sizeLine_eq]; omega, acc.toList, c, by rw [hacc]; exact vals_refs' as, ?_⟩
        rw [Array.toArray_toList]
        exact hS
      · rw [off b hb hb2] at q
        exact (I.hok b u q).stay (fun d v _ y => hk d v y) (fun d y => kp d _ y) fun d xs y => kp d _ y
/-- list(zip(a, b)) of two tuples of one length -/
def rLZ (K : PySem.W.Frag) (Q : VK) : List V → Hp → Prop
  | [x, y], H2 => ∃ (l1 l2 : Addr) (xs ys : List V), x = .ref l1 ∧ y = .ref l2 ∧ SqT K H2 l1 xs ∧ SqT K H2 l2 ys ∧ xs.length = ys.length ∧ xs.length ≤ 900 ∧
    ∀ (S : Addr) (as : List Addr) (H' : Hp), H2 S = none → Same H2 H' → as.length = xs.length → H' S = some (.lst (as.map V.ref)) → (∀ (j : Nat) (a : Addr) (x y : V), as[j]? = some a → xs[j]? = some x → ys[j]? = some y → H' a = some (.tup [x, y])) → Q (.ref S) H'
  | _, _ => False
def tListZip (K : PySem.W.Frag) (t1 t2 : TE) : TE := fun σ H Q => t1 σ H fun x H1 => t2 σ H1 fun y H2 => rLZ K Q [x, y] H2
theorem pe_listZip {X : Cx} {e1 e2 : Expr} {t1 t2 : TE} {p p2 pos pos2 : Pos} (hc : X.calm = true) (h1 : PE X e1 t1) (h2 : PE X e2 t2) (hg : Gl X "list") (hm : X.mg "list" = none) (hg2 : Gl X "zip") (hm2 : X.mg "zip" = none)
    (hs : starEach [.Call (.Name "zip" p2) [e1, e2] [] pos2] X.env = (false, eval (.Call (.Name "zip" p2) [e1, e2] [] pos2) X.env) :: starEach [] X.env := by rfl)
    (hs1 : starEach [e1, e2] X.env = (false, eval e1 X.env) :: starEach [e2] X.env := by rfl) (hs2 : starEach [e2] X.env = (false, eval e2 X.env) :: starEach [] X.env := by rfl) (hpl : (backTo pos2 (starEach [e2] X.env)).any (·.1) = false := by rfl) :
    PE X (.Call (.Name "list" p) [.Call (.Name "zip" p2) [e1, e2] [] pos2] [] pos) (tListZip X.K t1 t2) := by
  refine ⟨fun pins s σ H Q I hq => ?_⟩
  refine wpAny_Call_Name_kw (ld_blt I hg hm (by first | boot_by_name | rfl | kernel_rfl) ?_)
  refine PyProof.Rows.callWith_type1 ?_ hs rfl
  rw [hs]
  show wpAny _ _ (spliced ((false, eval (.Call (.Name "zip" p2) [e1, e2] [] pos2) X.env) :: backTo pos (starEach [] X.env))) _ _ s
  refine Calls.spliced_cons ?_
  refine wpAny_Call_Name_kw (ld_blt I hg2 hm2 (by first | boot_by_name | rfl | kernel_rfl) ?_)
  refine PyProof.Rows.callWith_type1 ?_ hs1 hpl
  refine thn ((pa_cons h1 (pa_cons h2 pa_nil hs2) hs1).run pos2 pins s σ H (fun vs H2 => rLZ X.K Q vs H2) I hq) fun us s2 hu => ?_
  · obtain ⟨vs, H2, I2, r2, qq⟩ := hu
    obtain ⟨x, y, rfl⟩ : ∃ x y, vs = [x, y] := by
      match vs, qq with
      | [x, y], _ => exact ⟨x, y, rfl⟩
    obtain ⟨l1, l2, xs, ys, rfl, rfl, q1, q2, q3, q4, q5⟩ := qq
    obtain rfl : us = [Value.ref l1, Value.ref l2] := by
      cases r2 with
      | cons a b => cases b with
        | cons b c => cases c; cases a; cases b; rfl
    obtain ⟨i1, v1, T1, _⟩ := I2.tuple q1
    have T1 : s2.heap.IsTuple l1 i1.toArray := T1
    obtain ⟨i2, v2, T2, _⟩ := I2.tuple q2
    have T2 : s2.heap.IsTuple l2 i2.toArray := T2
    have L1 := v1.length
    have L2' := v2.length
    refine RZ.call_zipT T1 T2 fun h3 z1 z2 z3 z4 z5 z6 k3 => ?_
    refine Calls.spliced_nil ?_
    have b1 : l1 < s2.heap.objs.size := let ⟨_, e, _⟩ := T1; Heap.lt_size e
    have b2 : l2 < s2.heap.objs.size := let ⟨_, e, _⟩ := T2; Heap.lt_size e
    have D : ZipApart (s2.heap.objs.size + 4) (s2.heap.objs.size + 2) (s2.heap.objs.size + 3) s2.heap.objs.size (s2.heap.objs.size + 1) l1 l2 := by
      have b1 : @LT.lt Nat instLTNat l1 s2.heap.objs.size := b1
      have b2 : @LT.lt Nat instLTNat l2 s2.heap.objs.size := b2
      constructor <;> (intro z; have z : @Eq Nat _ _ := z; omega)
    refine ZL.call_list (xs := i1.toArray) (ys := i2.toArray) (s := { s2 with heap := h3 }) (I2.ok.hd hc) D (by rw [List.size_toArray, List.size_toArray]; omega) (by rw [List.size_toArray]; omega) z2 z4 z5 (T1.at fun o e => k3 _ o e) (T2.at fun o e => k3 _ o e) z1 z3 fun h' tk acc c as hk hS hl hG hacc => ?_
    have hk' : ∀ b o, s2.heap.get? b = some o → h'.get? b = some o := fun b o e => by
      have lb : @LT.lt Nat instLTNat b s2.heap.objs.size := Heap.lt_size e
      exact hk b o (fun z => by have z : @Eq Nat _ _ := z; omega) (fun z => by have z : @Eq Nat _ _ := z; omega) (fun z => by have z : @Eq Nat _ _ := z; omega) (fun z => by have z : @Eq Nat _ _ := z; omega) (k3 b o e)
    obtain ⟨J, sm, at'⟩ := zip_laid (tk := tk) I2 v1 v2 q4 hk' (by show s2.heap.objs.size ≤ h3.objs.size; omega) hS (by rw [hl]; simp [L1]) hG hacc
    exact ⟨.ref h3.objs.size, _, J, rfl, q5 _ as _ (I2.hok.fresh (by show s2.heap.objs.size ≤ h3.objs.size; omega)) sm (by rw [hl]; simp [L1]) upd_same at'⟩

/-! ### list.extend by a tuple -/
def rExtendT : V → List V → Hp → VK → Prop := fun x vs H Q => ∃ l b xs zs, x = .ref l ∧ vs = [.ref b] ∧ H l = some (.lst xs) ∧ H b = some (.tup zs) ∧ xs.length + zs.length ≤ 1000 ∧ Q .non (upd H l (.lst (xs ++ zs)))
theorem mt_extendT {X : Cx} : MtM X "list.extend" rExtendT := by
  intro pins s σ H x vs v us Q I rx rv h
  obtain ⟨l, b, xs, zs, rfl, rfl, hH, hB, hz, q⟩ := h
  cases rx
  obtain ⟨u, rfl, ru⟩ := rv.one
  cases ru
  obtain ⟨z, its, n, r, hl, e⟩ := I.lstM hH
  obtain ⟨its2, r2, ⟨o2, e2, c2, n2, d2⟩, _⟩ := I.tuple (SqT.of hB)
  have hl2 := r2.length
  have hs : sizeLine = 1152921504606846975 ∨ 2000 ≤ sizeLine := .inr (by decide)
  have h2000 : 2000 ≤ sizeLine := by decide
  have hT : s.TypeIs (.ref b) "tuple" := ⟨o2, e2, c2⟩
  refine wpAny_call_entry F.slot_list_extend ⟨_, e, rfl⟩ F.entry_list_extend ?_ (F.args_list_extend_2 _ _)
  unfold Builtin.«list.extend»
  refine wpAny_bind (wpAny_of_eq (a := ((Value.ref l : Value), (Value.ref b : Value))) (by first | rfl | kernel_rfl) ?_)
  show wpAny _ _ (Builtin.List.listExtendWith (.ref l) (.ref b) .none) _ _ _
  unfold Builtin.List.listExtendWith
  refine wpAny_bind (wpAny_typeOf hT ?_)
  rw [if_pos (by simp)]
  refine wpAny_bind ?_
  unfold Builtin.List.listItems
  refine wpAny_bind (wpAny_seqItems e2 d2 (wpAny_pure ?_))
  refine wpAny_bind (wpAny_bind (wpAny_seqItems e rfl (wpAny_pure ?_)))
  have hlong : ¬ (!its.toArray.isEmpty && Builtin.List.listTooLong (its.toArray.size + its2.toArray.size)) = true := by
    rw [notLongL (by rw [List.size_toArray, List.size_toArray]; omega), Bool.and_false]
    exact Bool.false_ne_true
  rw [if_neg hlong]
  show wpAny _ _ (updateSeq l (· ++ its2.toArray) >>= fun _ => ret .none) _ _ _
  refine wpAny_bind (wpAny_updateSeq e rfl ?_ (by rw [List.size_toArray]; omega) (by rw [Array.size_append, List.size_toArray, List.size_toArray]; omega))
  exact wpAny_pure ⟨_, rfl, .non, _, I.lset (its' := its ++ its2) hH e (by simp) (r.append r2) (by rw [List.length_append]; omega), rfl, q⟩
/-! ### texts as data -/
mutual
/-- a value and its data: None, ints, texts, tuples of such -/
inductive Td (H : Hp) : V → PyData → Prop
  | non : Td H .non .none
  | int (i : Int) : Td H (.int i) (.int i)
  | str (x : Str) : PyData.strOk x = true → Td H (.str x) (.str x)
  | tup {a : Addr} {vs : List V} {ds : List PyData} : H a = some (.tup vs) → TdAll H vs ds → Td H (.ref a) (.tuple ds)
inductive TdAll (H : Hp) : List V → List PyData → Prop
  | nil : TdAll H [] []
  | cons {v : V} {vs : List V} {d : PyData} {ds : List PyData} : Td H v d → TdAll H vs ds → TdAll H (v :: vs) (d :: ds)
end
def TKeep (H H' : Hp) : Prop := ∀ b vs, H b = some (.tup vs) → H' b = some (.tup vs)
theorem TKeep.refl (H : Hp) : TKeep H H := fun _ _ h => h
theorem TKeep.trans {H H1 H2 : Hp} (x : TKeep H H1) (y : TKeep H1 H2) : TKeep H H2 := fun b vs h => y b vs (x b vs h)
theorem sameTk {H H' : Hp} (x : Same H H') : TKeep H H' := fun b vs h => x b _ h
theorem TKeep.upd {H : Hp} {a : Addr} {o : HO} {ys : List V} (h : H a = some (.lst ys)) : TKeep H (upd H a o) := fun b vs e => by
  rw [upd_ne (fun z => by rw [z, h] at e; cases e)]; exact e
mutual
theorem Td.keep {H H' : Hp} (k : TKeep H H') : ∀ {d : PyData} {v : V}, Td H v d → Td H' v d
  | _, _, .non => .non
  | _, _, .int i => .int i
  | _, _, .str x h => .str x h
  | _, _, .tup h t => .tup (k _ _ h) (TdAll.keep k t)
theorem TdAll.keep {H H' : Hp} (k : TKeep H H') : ∀ {ds : List PyData} {vs : List V}, TdAll H vs ds → TdAll H' vs ds
  | _, _, .nil => .nil
  | _, _, .cons h t => .cons (Td.keep k h) (TdAll.keep k t)
end
mutual
theorem Td.dp {K : PySem.W.Frag} {H : Hp} : ∀ {d : PyData} {v : V}, Td H v d → Dp K H v d
  | _, _, .non => .non
  | _, _, .int i => .int i
  | _, _, .str x _ => .str x
  | _, _, .tup h t => .tup (SqT.of h) (TdAll.dp t)
theorem TdAll.dp {K : PySem.W.Frag} {H : Hp} : ∀ {ds : List PyData} {vs : List V}, TdAll H vs ds → DpAll K H vs ds
  | _, _, .nil => .nil
  | _, _, .cons h t => .cons (Td.dp h) (TdAll.dp t)
end
mutual
theorem Td.lay {H : Hp} : ∀ {d : PyData} {v : V}, Td H v d → d.canLay0 = true
  | _, _, .non => rfl
  | _, _, .int i => rfl
  | _, _, .str x h => by simpa [PyData.canLay0] using h
  | _, _, .tup h t => by simpa [PyData.canLay0] using TdAll.lay t
theorem TdAll.lay {H : Hp} : ∀ {ds : List PyData} {vs : List V}, TdAll H vs ds → PyData.canLayAll0 ds = true
  | _, _, .nil => rfl
  | _, _, .cons h t => by simp [PyData.canLayAll0, Td.lay h, TdAll.lay t]
end
theorem Td.shaped {H : Hp} {d : PyData} {v : V} (h : Td H v d) (n : d.depth ≤ 64) : SeqAt.shaped d = true := by
  simp only [SeqAt.shaped, h.lay, Bool.true_and]
  exact decide_eq_true n
theorem TdAll.length {H : Hp} : ∀ {ds : List PyData} {vs : List V}, TdAll H vs ds → vs.length = ds.length
  | _, _, .nil => rfl
  | _, _, .cons _ t => congrArg (· + 1) (TdAll.length t)
theorem TdAll.get {H : Hp} : ∀ {ds : List PyData} {vs : List V}, TdAll H vs ds → ∀ {i : Nat} {v : V}, vs[i]? = some v → ∃ d, ds[i]? = some d ∧ Td H v d
  | _, _, .nil, i, v, h => by simp at h
  | _, _, .cons h t, 0, v, e => by cases e; exact ⟨_, rfl, h⟩
  | _, _, .cons h t, i + 1, v, e => TdAll.get t e
theorem TdAll.app {H : Hp} : ∀ {ds es : List PyData} {vs ws : List V}, TdAll H vs ds → TdAll H ws es → TdAll H (vs ++ ws) (ds ++ es)
  | _, _, _, _, .nil, y => y
  | _, _, _, _, .cons h t, y => .cons h (TdAll.app t y)
theorem TdAll.snoc {H : Hp} : ∀ {ds : List PyData} {vs : List V} {d : PyData}, TdAll H vs (ds ++ [d]) → ∃ (ws : List V) (v : V), vs = ws ++ [v] ∧ TdAll H ws ds ∧ Td H v d
  | [], _, _, .cons h .nil => ⟨[], _, rfl, .nil, h⟩
  | _ :: _, _, _, .cons h t => by
    obtain ⟨ws, v, e, x, y⟩ := TdAll.snoc t
    exact ⟨_ :: ws, v, by rw [e]; rfl, .cons h x, y⟩
mutual
/-- the number of parts -/
def nd : PyData → Nat
  | .tuple ds => ndAll ds + 1
  | _ => 1
def ndAll : List PyData → Nat
  | [] => 0
  | d :: ds => nd d + ndAll ds
end
theorem nd_pos (d : PyData) : 1 ≤ nd d := by
  cases d <;> simp [nd]
theorem ndAll_app : ∀ ds es : List PyData, ndAll (ds ++ es) = ndAll ds + ndAll es
  | [], _ => by simp [ndAll]
  | d :: ds, es => by simp [ndAll, ndAll_app ds es, Nat.add_assoc]
mutual
/-- a text's signs -/
def spell : PyData → List Item
  | .int i => [.inl (.inl i)]
  | .str x => [.inl (.inr x)]
  | .tuple ds => .inr [(ds.length : Int)] :: spellR ds
  | _ => []
def spellR : List PyData → List Item
  | [] => []
  | d :: ds => spellR ds ++ spell d
end
theorem spellR_app : ∀ ds es : List PyData, spellR (ds ++ es) = spellR es ++ spellR ds
  | [], es => by simp [spellR]
  | d :: ds, es => by simp [spellR, spellR_app ds es]
mutual
/-- a text: ints, texts, tuples of such -/
def txt : PyData → Bool
  | .int _ | .str _ => true
  | .tuple ds => txtAll ds
  | _ => false
def txtAll : List PyData → Bool
  | [] => true
  | d :: ds => txt d && txtAll ds
end
theorem txtAll_app : ∀ ds es : List PyData, txtAll (ds ++ es) = (txtAll ds && txtAll es)
  | [], _ => by simp [txtAll]
  | d :: ds, es => by simp [txtAll, txtAll_app ds es, Bool.and_assoc]
mutual
theorem spell_inj : ∀ (d e : PyData) (r r' : List Item), txt d = true → txt e = true → spell d ++ r = spell e ++ r' → d = e ∧ r = r'
  | .int i, e, r, r', _, he, h => by
    cases e <;> simp_all [spell, txt]
  | .str x, e, r, r', _, he, h => by
    cases e <;> simp_all [spell, txt]
  | .tuple ds, e, r, r', hd, he, h => by
    cases e with
    | tuple es =>
      simp only [spell, List.cons_append, List.cons.injEq, Sum.inr.injEq, and_true] at h
      have hl : ds.length = es.length := by have := h.1; omega
      obtain ⟨h1, h2⟩ := spellR_inj ds es r r' hd he hl h.2
      exact ⟨by rw [h1], h2⟩
    | int j => simp [spell] at h
    | str y => simp [spell] at h
    | none => simp [txt] at he
    | bool b => simp [txt] at he
    | list l => simp [txt] at he
    | dict k => simp [txt] at he
  | .none, _, _, _, hd, _, _ => by simp [txt] at hd
  | .bool _, _, _, _, hd, _, _ => by simp [txt] at hd
  | .list _, _, _, _, hd, _, _ => by simp [txt] at hd
  | .dict _, _, _, _, hd, _, _ => by simp [txt] at hd
theorem spellR_inj : ∀ (ds es : List PyData) (r r' : List Item), txtAll ds = true → txtAll es = true → ds.length = es.length → spellR ds ++ r = spellR es ++ r' → ds = es ∧ r = r'
  | [], [], r, r', _, _, _, h => ⟨rfl, by simpa [spellR] using h⟩
  | [], _ :: _, _, _, _, _, h, _ => by simp at h
  | _ :: _, [], _, _, _, _, h, _ => by simp at h
  | d :: ds, e :: es, r, r', hd, he, hl, h => by
    have hd' : txt d = true ∧ txtAll ds = true := by simpa [txtAll] using hd
    have he' : txt e = true ∧ txtAll es = true := by simpa [txtAll] using he
    simp only [spellR, List.append_assoc] at h
    obtain ⟨h1, h2⟩ := spellR_inj ds es (spell d ++ r) (spell e ++ r') hd'.2 he'.2 (Nat.succ.inj hl) h
    obtain ⟨h3, h4⟩ := spell_inj d e r r' hd'.1 he'.1 h2
    exact ⟨by rw [h1, h3], h4⟩
end
mutual
theorem eqv_txt {H : Hp} : ∀ {d e : PyData} {v : V}, Td H v d → txt e = true → (PyData.eqv d e = true ↔ d = e)
  | .none, e, _, _, he => by cases e <;> simp_all [PyData.eqv, txt]
  | .int i, e, _, _, he => by cases e <;> simp_all [PyData.eqv, txt]
  | .str x, e, _, _, he => by cases e <;> simp_all [PyData.eqv, txt]
  | .tuple ds, e, _, h, he => by
    cases h with
    | tup _ t =>
      cases e with
      | tuple es =>
        have := eqvAll_txt t (show txtAll es = true from he)
        simpa [PyData.eqv] using this
      | int j => simp [PyData.eqv]
      | str y => simp [PyData.eqv]
      | none => simp [txt] at he
      | bool b => simp [txt] at he
      | list l => simp [txt] at he
      | dict k => simp [txt] at he
theorem eqvAll_txt {H : Hp} : ∀ {ds es : List PyData} {vs : List V}, TdAll H vs ds → txtAll es = true → (PyData.eqvAll ds es = true ↔ ds = es)
  | [], [], _, _, _ => by simp [PyData.eqvAll]
  | [], _ :: _, _, _, _ => by simp [PyData.eqvAll]
  | _ :: _, [], _, _, _ => by simp [PyData.eqvAll]
  | d :: ds, e :: es, _, .cons h t, he => by
    have he' : txt e = true ∧ txtAll es = true := by simpa [txtAll] using he
    have h1 := eqv_txt h he'.1
    have h2 := eqvAll_txt t he'.2
    simp [PyData.eqvAll, h1, h2]
end

/-! ### t * n, n any number of 1 or more; t * 1 is t itself -/
section
open PySem.Spec PyProof.Rows
theorem tuple_mul1 (l : Addr) (items : Array Value) (n : Nat) (dd : Option Addr) (sl : Array (Option Value)) (u : Tok) :
    Meets (Builtin.«tuple.__mul__» ⟨[.ref l, .int 1 u], []⟩) (fun _ R s => s.heap.get? l = some { cls := .type "tuple", dict := dd, data := .seq items n, slots := sl } ∧
      R (.ok (.ret (Value.ref l))) s) :=
  .of_wp fun prog w A R s h => by
    obtain ⟨hp, g, d, tk, os⟩ := s
    obtain ⟨hl, h⟩ := h
    have f1 := PySem.AutoSeq1.idx_int
    have c0 : (decide ((1 : Int) < -(2 ^ 63)) || decide ((1 : Int) ≥ 2 ^ 63)) = false := by decide
    have c1 : (items.isEmpty || (1 : Int) == 1) = true := by simp
    wp_walk using wpAny_loadPart' hl
    exact ⟨_, rfl, h⟩
def rRepTA (K : PySem.W.Frag) : R2 := fun x y H Q => ∃ l k xs, x = .ref l ∧ y = .int k ∧ SqT K H l xs ∧ xs ≠ [] ∧ 1 ≤ k ∧ k ≤ 1000 ∧ xs.length ≤ 1000 ∧ (k = 1 → Q (.ref l) H) ∧ (2 ≤ k → ∀ p, H p = none → Q (.ref p) (upd H p (.tup (List.replicate k.toNat xs).flatten)))
theorem op_repTA {X : Cx} : OpR X (binaryOp .Mult) (rRepTA X.K) := by
  intro pins s σ H x y v u Q I rx ry h
  obtain ⟨l, k, xs, rfl, rfl, hT, hne, h1, h2, hz, q1, q2⟩ := h
  by_cases hk : k = 1
  · subst hk
    cases rx
    obtain ⟨t, rfl⟩ := ry
    obtain ⟨its, r, ⟨⟨cls, dd, data, sl⟩, ho, hc, n, hd⟩, hs⟩ := I.tuple hT
    simp only at hc hd
    subst hc hd
    exact wpAny_binaryOp_repeat_ref (T := "tuple") (U := "int") (by decide) ⟨_, ho, rfl⟩ (fun s' => typeIs_int s' 1 t) noFill_tuple_mul PySem.F.fills_int_mul PySem.F.slot_int_rmul repeat_tuple PySem.F.slot_int_index.lookup
      (call_meets PySem.F.slot_int_rmul (typeIs_int s 1 t) PySem.F.entry_int_rmul (PySem.F.args_int_rmul_2 _ _) (int_rmul_tuple 1 t l its.toArray n dd sl)
        ⟨ho, rfl, ⟨_, ho, rfl⟩, call_meets PySem.F.slot_tuple_mul ⟨_, ho, rfl⟩ PySem.F.entry_tuple_mul (PySem.F.args_tuple_mul_2 _ _) (tuple_mul1 l its.toArray n dd sl t) ⟨ho, ⟨.ref l, H, I, rfl, q1 rfl⟩⟩⟩)
  · exact op_repT pins s σ H _ _ v u Q I rx ry ⟨l, k, xs, rfl, rfl, hT, hne, by omega, h2, hz, q2 (by omega)⟩
end

def top (i : Nat) : Stmt := PySem.Challenge.pw_caisson_k04_blank_volumes.main.body.getD i (.Pass ⟨0, 0, 0, 0⟩)
abbrev s_leaf : Stmt := top 1
abbrev s_node : Stmt := top 2
abbrev s_parts : Stmt := top 3
abbrev s_blank_volume : Stmt := top 4
abbrev s_spelled : Stmt := top 6
abbrev s_is_same : Stmt := top 7
abbrev s_Sealer___init__ : Stmt := inClass (top 8) 0
abbrev s_Sealer_mark : Stmt := inClass (top 8) 1
abbrev s_Sealer_knows : Stmt := inClass (top 8) 2
abbrev s_leaves_below : Stmt := top 17
abbrev s_is_depth : Stmt := top 18
abbrev s_out_of_range : Stmt := top 19
abbrev s_Shape___init__ : Stmt := inClass (top 20) 0
abbrev s_Shape_leaves : Stmt := inClass (top 20) 1
abbrev s_Shape_way : Stmt := inClass (top 20) 2
abbrev s_Shape_cells : Stmt := inClass (top 20) 3
abbrev s_Shape_ample : Stmt := inClass (top 20) 4
abbrev s_apart : Stmt := top 22
abbrev s_Talk___init__ : Stmt := inClass (top 23) 0
abbrev s_Talk_request : Stmt := inClass (top 23) 1
abbrev s_Talk_has_ended : Stmt := inClass (top 23) 2
abbrev s_Talk_answer : Stmt := inClass (top 23) 3
abbrev s_Talk_following : Stmt := inClass (top 23) 4
abbrev s_CellTalk_following : Stmt := inClass (top 24) 1
abbrev s_CellTalk_accepted : Stmt := inClass (top 24) 2
abbrev s_CellTalk_reading : Stmt := inClass (top 24) 3
abbrev s_ReadTalk_accepted : Stmt := inClass (top 25) 1
abbrev s_ScanTalk_note : Stmt := inClass (top 26) 1
abbrev s_ScanTalk_accepted : Stmt := inClass (top 26) 2
abbrev s_mount : Stmt := top 28
abbrev s__law_state : Stmt := top 30
abbrev s__law_draw : Stmt := top 31
abbrev s__law_shape : Stmt := top 32
abbrev s__law_leaves : Stmt := top 33
abbrev s__law_words : Stmt := top 34
abbrev s__law_drive : Stmt := top 35
abbrev s_law : Stmt := top 36
abbrev n_leaf : List Str := ["words"]
abbrev p_leaf : List Str := ["words"]
theorem sc_leaf : FnScope n_leaf p_leaf (defScope s_leaf) := ⟨rfl, rfl, rfl, by decide +kernel, rfl, by decide +kernel, by decide +kernel⟩
abbrev n_node : List Str := ["entries"]
abbrev p_node : List Str := ["entries"]
theorem sc_node : FnScope n_node p_node (defScope s_node) := ⟨rfl, rfl, rfl, by decide +kernel, rfl, by decide +kernel, by decide +kernel⟩
abbrev n_parts : List Str := ["cell"]
abbrev p_parts : List Str := ["cell"]
theorem sc_parts : FnScope n_parts p_parts (defScope s_parts) := ⟨rfl, rfl, rfl, by decide +kernel, rfl, by decide +kernel, by decide +kernel⟩
abbrev n_blank_volume : List Str := ["shape", "sealer", "cell", "writes", "entry", "block"]
abbrev p_blank_volume : List Str := ["shape", "sealer"]
theorem sc_blank_volume : FnScope n_blank_volume p_blank_volume (defScope s_blank_volume) := ⟨rfl, rfl, rfl, by decide +kernel, rfl, by decide +kernel, by decide +kernel⟩
abbrev n_spelled : List Str := ["text", "signs", "waiting", "part"]
abbrev p_spelled : List Str := ["text"]
theorem sc_spelled : FnScope n_spelled p_spelled (defScope s_spelled) := ⟨rfl, rfl, rfl, by decide +kernel, rfl, by decide +kernel, by decide +kernel⟩
abbrev n_is_same : List Str := ["answer", "text", "waiting", "left", "right"]
abbrev p_is_same : List Str := ["answer", "text"]
theorem sc_is_same : FnScope n_is_same p_is_same (defScope s_is_same) := ⟨rfl, rfl, rfl, by decide +kernel, rfl, by decide +kernel, by decide +kernel⟩
abbrev n_Sealer___init__ : List Str := ["self"]
abbrev p_Sealer___init__ : List Str := ["self"]
theorem sc_Sealer___init__ : FnScope n_Sealer___init__ p_Sealer___init__ (defScope s_Sealer___init__) := ⟨rfl, rfl, rfl, by decide +kernel, rfl, by decide +kernel, by decide +kernel⟩
abbrev n_Sealer_mark : List Str := ["self", "text", "key"]
abbrev p_Sealer_mark : List Str := ["self", "text"]
theorem sc_Sealer_mark : FnScope n_Sealer_mark p_Sealer_mark (defScope s_Sealer_mark) := ⟨rfl, rfl, rfl, by decide +kernel, rfl, by decide +kernel, by decide +kernel⟩
abbrev n_Sealer_knows : List Str := ["self", "text", "mark"]
abbrev p_Sealer_knows : List Str := ["self", "text", "mark"]
theorem sc_Sealer_knows : FnScope n_Sealer_knows p_Sealer_knows (defScope s_Sealer_knows) := ⟨rfl, rfl, rfl, by decide +kernel, rfl, by decide +kernel, by decide +kernel⟩
abbrev n_leaves_below : List Str := ["fanout", "levels", "number", "_"]
abbrev p_leaves_below : List Str := ["fanout", "levels"]
theorem sc_leaves_below : FnScope n_leaves_below p_leaves_below (defScope s_leaves_below) := ⟨rfl, rfl, rfl, by decide +kernel, rfl, by decide +kernel, by decide +kernel⟩
abbrev n_is_depth : List Str := ["fanout", "depth"]
abbrev p_is_depth : List Str := ["fanout", "depth"]
theorem sc_is_depth : FnScope n_is_depth p_is_depth (defScope s_is_depth) := ⟨rfl, rfl, rfl, by decide +kernel, rfl, by decide +kernel, by decide +kernel⟩
abbrev n_out_of_range : List Str := ["shape"]
abbrev p_out_of_range : List Str := ["shape"]
theorem sc_out_of_range : FnScope n_out_of_range p_out_of_range (defScope s_out_of_range) := ⟨rfl, rfl, rfl, by decide +kernel, rfl, by decide +kernel, by decide +kernel⟩
abbrev n_Shape___init__ : List Str := ["self", "fanout", "depth", "words", "blocks", "snapshots", "wrong"]
abbrev p_Shape___init__ : List Str := ["self", "fanout", "depth", "words", "blocks", "snapshots"]
theorem sc_Shape___init__ : FnScope n_Shape___init__ p_Shape___init__ (defScope s_Shape___init__) := ⟨rfl, rfl, rfl, by decide +kernel, rfl, by decide +kernel, by decide +kernel⟩
abbrev n_Shape_leaves : List Str := ["self"]
abbrev p_Shape_leaves : List Str := ["self"]
theorem sc_Shape_leaves : FnScope n_Shape_leaves p_Shape_leaves (defScope s_Shape_leaves) := ⟨rfl, rfl, rfl, by decide +kernel, rfl, by decide +kernel, by decide +kernel⟩
abbrev n_Shape_way : List Str := ["self", "index", "digits", "rest", "_"]
abbrev p_Shape_way : List Str := ["self", "index"]
theorem sc_Shape_way : FnScope n_Shape_way p_Shape_way (defScope s_Shape_way) := ⟨rfl, rfl, rfl, by decide +kernel, rfl, by decide +kernel, by decide +kernel⟩
abbrev n_Shape_cells : List Str := ["self", "level"]
abbrev p_Shape_cells : List Str := ["self"]
theorem sc_Shape_cells : FnScope n_Shape_cells p_Shape_cells (defScope s_Shape_cells) := ⟨rfl, rfl, rfl, by decide +kernel, rfl, by decide +kernel, by decide +kernel⟩
abbrev n_Shape_ample : List Str := ["self"]
abbrev p_Shape_ample : List Str := ["self"]
theorem sc_Shape_ample : FnScope n_Shape_ample p_Shape_ample (defScope s_Shape_ample) := ⟨rfl, rfl, rfl, by decide +kernel, rfl, by decide +kernel, by decide +kernel⟩
abbrev n_apart : List Str := ["request"]
abbrev p_apart : List Str := ["request"]
theorem sc_apart : FnScope n_apart p_apart (defScope s_apart) := ⟨rfl, rfl, rfl, by decide +kernel, rfl, by decide +kernel, by decide +kernel⟩
abbrev n_Talk___init__ : List Str := ["self", "request"]
abbrev p_Talk___init__ : List Str := ["self", "request"]
theorem sc_Talk___init__ : FnScope n_Talk___init__ p_Talk___init__ (defScope s_Talk___init__) := ⟨rfl, rfl, rfl, by decide +kernel, rfl, by decide +kernel, by decide +kernel⟩
abbrev n_Talk_request : List Str := ["self"]
abbrev p_Talk_request : List Str := ["self"]
theorem sc_Talk_request : FnScope n_Talk_request p_Talk_request (defScope s_Talk_request) := ⟨rfl, rfl, rfl, by decide +kernel, rfl, by decide +kernel, by decide +kernel⟩
abbrev n_Talk_has_ended : List Str := ["self"]
abbrev p_Talk_has_ended : List Str := ["self"]
theorem sc_Talk_has_ended : FnScope n_Talk_has_ended p_Talk_has_ended (defScope s_Talk_has_ended) := ⟨rfl, rfl, rfl, by decide +kernel, rfl, by decide +kernel, by decide +kernel⟩
abbrev n_Talk_answer : List Str := ["self", "value"]
abbrev p_Talk_answer : List Str := ["self", "value"]
theorem sc_Talk_answer : FnScope n_Talk_answer p_Talk_answer (defScope s_Talk_answer) := ⟨rfl, rfl, rfl, by decide +kernel, rfl, by decide +kernel, by decide +kernel⟩
abbrev n_Talk_following : List Str := ["self", "value"]
abbrev p_Talk_following : List Str := ["self", "value"]
theorem sc_Talk_following : FnScope n_Talk_following p_Talk_following (defScope s_Talk_following) := ⟨rfl, rfl, rfl, by decide +kernel, rfl, by decide +kernel, by decide +kernel⟩
abbrev n_CellTalk_following : List Str := ["self", "value", "block", "mark"]
abbrev p_CellTalk_following : List Str := ["self", "value"]
theorem sc_CellTalk_following : FnScope n_CellTalk_following p_CellTalk_following (defScope s_CellTalk_following) := ⟨rfl, rfl, rfl, by decide +kernel, rfl, by decide +kernel, by decide +kernel⟩
abbrev n_CellTalk_accepted : List Str := ["self", "cell"]
abbrev p_CellTalk_accepted : List Str := ["self", "cell"]
theorem sc_CellTalk_accepted : FnScope n_CellTalk_accepted p_CellTalk_accepted (defScope s_CellTalk_accepted) := ⟨rfl, rfl, rfl, by decide +kernel, rfl, by decide +kernel, by decide +kernel⟩
abbrev n_CellTalk_reading : List Str := ["self", "entry"]
abbrev p_CellTalk_reading : List Str := ["self", "entry"]
theorem sc_CellTalk_reading : FnScope n_CellTalk_reading p_CellTalk_reading (defScope s_CellTalk_reading) := ⟨rfl, rfl, rfl, by decide +kernel, rfl, by decide +kernel, by decide +kernel⟩
abbrev n_ReadTalk_accepted : List Str := ["self", "cell"]
abbrev p_ReadTalk_accepted : List Str := ["self", "cell"]
theorem sc_ReadTalk_accepted : FnScope n_ReadTalk_accepted p_ReadTalk_accepted (defScope s_ReadTalk_accepted) := ⟨rfl, rfl, rfl, by decide +kernel, rfl, by decide +kernel, by decide +kernel⟩
abbrev n_ScanTalk_note : List Str := ["self", "entries", "level", "entry"]
abbrev p_ScanTalk_note : List Str := ["self", "entries", "level"]
theorem sc_ScanTalk_note : FnScope n_ScanTalk_note p_ScanTalk_note (defScope s_ScanTalk_note) := ⟨rfl, rfl, rfl, by decide +kernel, rfl, by decide +kernel, by decide +kernel⟩
abbrev n_ScanTalk_accepted : List Str := ["self", "cell", "level", "block", "_"]
abbrev p_ScanTalk_accepted : List Str := ["self", "cell"]
theorem sc_ScanTalk_accepted : FnScope n_ScanTalk_accepted p_ScanTalk_accepted (defScope s_ScanTalk_accepted) := ⟨rfl, rfl, rfl, by decide +kernel, rfl, by decide +kernel, by decide +kernel⟩
abbrev n_mount : List Str := ["shape", "sealer", "anchor"]
abbrev p_mount : List Str := ["shape", "sealer", "anchor"]
theorem sc_mount : FnScope n_mount p_mount (defScope s_mount) := ⟨rfl, rfl, rfl, by decide +kernel, rfl, by decide +kernel, by decide +kernel⟩
abbrev n__law_state : List Str := ["script", "seed", "cell"]
abbrev p__law_state : List Str := ["script"]
theorem sc__law_state : FnScope n__law_state p__law_state (defScope s__law_state) := ⟨rfl, rfl, rfl, by decide +kernel, rfl, by decide +kernel, by decide +kernel⟩
abbrev n__law_draw : List Str := ["state", "many", "cells", "value", "mixed"]
abbrev p__law_draw : List Str := ["state", "many"]
theorem sc__law_draw : FnScope n__law_draw p__law_draw (defScope s__law_draw) := ⟨rfl, rfl, rfl, by decide +kernel, rfl, by decide +kernel, by decide +kernel⟩
abbrev n__law_shape : List Str := ["state", "blocks", "fanout", "depth", "words", "snapshots", "cells", "wide", "level", "ample", "many"]
abbrev p__law_shape : List Str := ["state", "blocks"]
theorem sc__law_shape : FnScope n__law_shape p__law_shape (defScope s__law_shape) := ⟨rfl, rfl, rfl, by decide +kernel, rfl, by decide +kernel, by decide +kernel⟩
abbrev n__law_leaves : List Str := ["shape", "total", "level"]
abbrev p__law_leaves : List Str := ["shape"]
theorem sc__law_leaves : FnScope n__law_leaves p__law_leaves (defScope s__law_leaves) := ⟨rfl, rfl, rfl, by decide +kernel, rfl, by decide +kernel, by decide +kernel⟩
abbrev n__law_words : List Str := ["state", "shape", "k"]
abbrev p__law_words : List Str := ["state", "shape"]
theorem sc__law_words : FnScope n__law_words p__law_words (defScope s__law_words) := ⟨rfl, rfl, rfl, by decide +kernel, rfl, by decide +kernel, by decide +kernel⟩
abbrev n__law_drive : List Str := ["talk", "disk", "k", "request"]
abbrev p__law_drive : List Str := ["talk", "disk"]
theorem sc__law_drive : FnScope n__law_drive p__law_drive (defScope s__law_drive) := ⟨rfl, rfl, rfl, by decide +kernel, rfl, by decide +kernel, by decide +kernel⟩
abbrev n_law : List Str := ["script", "state", "shape", "sealer", "writes", "anchor", "cell", "due", "level", "disk", "block", "index", "k", "words"]
abbrev p_law : List Str := ["script"]
theorem sc_law : FnScope n_law p_law (defScope s_law) := ⟨rfl, rfl, rfl, by decide +kernel, rfl, by decide +kernel, by decide +kernel⟩
abbrev s_CellTalk___init__ : Stmt := inClass (top 24) 0
abbrev n_CellTalk___init__ : List Str := ["self", "sealer", "entry"]
abbrev p_CellTalk___init__ : List Str := ["self", "sealer", "entry"]
theorem sc_CellTalk___init__ : ScO n_CellTalk___init__ p_CellTalk___init__ (defScope s_CellTalk___init__) := ⟨rfl, rfl, rfl, by decide, rfl, by decide +kernel, rfl, by decide +kernel, by decide +kernel, by decide +kernel, by decide +kernel, by decide +kernel⟩
abbrev s_ReadTalk___init__ : Stmt := inClass (top 25) 0
abbrev n_ReadTalk___init__ : List Str := ["self", "shape", "sealer", "root", "index"]
abbrev p_ReadTalk___init__ : List Str := ["self", "shape", "sealer", "root", "index"]
theorem sc_ReadTalk___init__ : ScO n_ReadTalk___init__ p_ReadTalk___init__ (defScope s_ReadTalk___init__) := ⟨rfl, rfl, rfl, by decide, rfl, by decide +kernel, rfl, by decide +kernel, by decide +kernel, by decide +kernel, by decide +kernel, by decide +kernel⟩
abbrev s_ScanTalk___init__ : Stmt := inClass (top 26) 0
abbrev n_ScanTalk___init__ : List Str := ["self", "shape", "sealer", "roots"]
abbrev p_ScanTalk___init__ : List Str := ["self", "shape", "sealer", "roots"]
theorem sc_ScanTalk___init__ : ScO n_ScanTalk___init__ p_ScanTalk___init__ (defScope s_ScanTalk___init__) := ⟨rfl, rfl, rfl, by decide, rfl, by decide +kernel, rfl, by decide +kernel, by decide +kernel, by decide +kernel, by decide +kernel, by decide +kernel⟩
structure FnRec (K : PySem.W.Frag) (n q : Str) (st : Stmt) (p : List Str) where
  f : Addr
  d : FuncData
  F : Fun K n q st f d
  b : Binds K d p []
set_option maxHeartbeats 0 in
structure Txt (K : PySem.W.Frag) (mg : Str → Option Value) where
  r_leaf : FnRec K "leaf" "leaf" s_leaf p_leaf
  mg_leaf : mg "leaf" = some (.ref r_leaf.f)
  r_node : FnRec K "node" "node" s_node p_node
  mg_node : mg "node" = some (.ref r_node.f)
  r_parts : FnRec K "parts" "parts" s_parts p_parts
  mg_parts : mg "parts" = some (.ref r_parts.f)
  r_blank_volume : FnRec K "blank_volume" "blank_volume" s_blank_volume p_blank_volume
  mg_blank_volume : mg "blank_volume" = some (.ref r_blank_volume.f)
  r_spelled : FnRec K "spelled" "spelled" s_spelled p_spelled
  mg_spelled : mg "spelled" = some (.ref r_spelled.f)
  r_is_same : FnRec K "is_same" "is_same" s_is_same p_is_same
  mg_is_same : mg "is_same" = some (.ref r_is_same.f)
  r_Sealer___init__ : FnRec K "__init__" "Sealer.__init__" s_Sealer___init__ p_Sealer___init__
  r_Sealer_mark : FnRec K "mark" "Sealer.mark" s_Sealer_mark p_Sealer_mark
  r_Sealer_knows : FnRec K "knows" "Sealer.knows" s_Sealer_knows p_Sealer_knows
  r_leaves_below : FnRec K "leaves_below" "leaves_below" s_leaves_below p_leaves_below
  mg_leaves_below : mg "leaves_below" = some (.ref r_leaves_below.f)
  r_is_depth : FnRec K "is_depth" "is_depth" s_is_depth p_is_depth
  mg_is_depth : mg "is_depth" = some (.ref r_is_depth.f)
  r_out_of_range : FnRec K "out_of_range" "out_of_range" s_out_of_range p_out_of_range
  mg_out_of_range : mg "out_of_range" = some (.ref r_out_of_range.f)
  f_Shape___init__ : Addr
  d_Shape___init__ : FuncData
  F_Shape___init__ : FunD K "__init__" "Shape.__init__" (defArgs s_Shape___init__) (defBody s_Shape___init__) (defScope s_Shape___init__) [] [("snapshots", V.int 0)] f_Shape___init__ d_Shape___init__
  r_Shape_leaves : FnRec K "leaves" "Shape.leaves" s_Shape_leaves p_Shape_leaves
  r_Shape_way : FnRec K "way" "Shape.way" s_Shape_way p_Shape_way
  r_Shape_cells : FnRec K "cells" "Shape.cells" s_Shape_cells p_Shape_cells
  r_Shape_ample : FnRec K "ample" "Shape.ample" s_Shape_ample p_Shape_ample
  r_apart : FnRec K "apart" "apart" s_apart p_apart
  mg_apart : mg "apart" = some (.ref r_apart.f)
  r_Talk___init__ : FnRec K "__init__" "Talk.__init__" s_Talk___init__ p_Talk___init__
  r_Talk_request : FnRec K "request" "Talk.request" s_Talk_request p_Talk_request
  r_Talk_has_ended : FnRec K "has_ended" "Talk.has_ended" s_Talk_has_ended p_Talk_has_ended
  r_Talk_answer : FnRec K "answer" "Talk.answer" s_Talk_answer p_Talk_answer
  r_Talk_following : FnRec K "following" "Talk.following" s_Talk_following p_Talk_following
  r_CellTalk_following : FnRec K "following" "CellTalk.following" s_CellTalk_following p_CellTalk_following
  r_CellTalk_accepted : FnRec K "accepted" "CellTalk.accepted" s_CellTalk_accepted p_CellTalk_accepted
  r_CellTalk_reading : FnRec K "reading" "CellTalk.reading" s_CellTalk_reading p_CellTalk_reading
  r_ReadTalk_accepted : FnRec K "accepted" "ReadTalk.accepted" s_ReadTalk_accepted p_ReadTalk_accepted
  r_ScanTalk_note : FnRec K "note" "ScanTalk.note" s_ScanTalk_note p_ScanTalk_note
  r_ScanTalk_accepted : FnRec K "accepted" "ScanTalk.accepted" s_ScanTalk_accepted p_ScanTalk_accepted
  r_mount : FnRec K "mount" "mount" s_mount p_mount
  mg_mount : mg "mount" = some (.ref r_mount.f)
  r__law_state : FnRec K "_law_state" "_law_state" s__law_state p__law_state
  mg__law_state : mg "_law_state" = some (.ref r__law_state.f)
  r__law_draw : FnRec K "_law_draw" "_law_draw" s__law_draw p__law_draw
  mg__law_draw : mg "_law_draw" = some (.ref r__law_draw.f)
  r__law_shape : FnRec K "_law_shape" "_law_shape" s__law_shape p__law_shape
  mg__law_shape : mg "_law_shape" = some (.ref r__law_shape.f)
  r__law_leaves : FnRec K "_law_leaves" "_law_leaves" s__law_leaves p__law_leaves
  mg__law_leaves : mg "_law_leaves" = some (.ref r__law_leaves.f)
  r__law_words : FnRec K "_law_words" "_law_words" s__law_words p__law_words
  mg__law_words : mg "_law_words" = some (.ref r__law_words.f)
  r__law_drive : FnRec K "_law_drive" "_law_drive" s__law_drive p__law_drive
  mg__law_drive : mg "_law_drive" = some (.ref r__law_drive.f)
  r_law : FnRec K "law" "law" s_law p_law
  mg_law : mg "law" = some (.ref r_law.f)
  C_Sealer : Addr
  mg_Sealer : mg "Sealer" = some (.ref C_Sealer)
  cl_Sealer : Cls K C_Sealer
  M_Sealer : Mk K C_Sealer r_Sealer___init__.f
  na_Sealer__marks : NoAttr K C_Sealer "_marks"
  na_Sealer__texts : NoAttr K C_Sealer "_texts"
  m_Sealer_mark : Meth K C_Sealer "mark" r_Sealer_mark.f
  m_Sealer_knows : Meth K C_Sealer "knows" r_Sealer_knows.f
  C_Shape : Addr
  mg_Shape : mg "Shape" = some (.ref C_Shape)
  cl_Shape : Cls K C_Shape
  kb_Shape : KBn K d_Shape___init__ p_Shape___init__ 1 ["fanout", "depth", "words", "blocks", "snapshots"] (fun us ws => us ++ ws) (fun vs zs => vs ++ zs)
  M_Shape : Mk K C_Shape f_Shape___init__
  na_Shape_fanout : NoAttr K C_Shape "fanout"
  na_Shape_depth : NoAttr K C_Shape "depth"
  na_Shape_words : NoAttr K C_Shape "words"
  na_Shape_blocks : NoAttr K C_Shape "blocks"
  na_Shape_snapshots : NoAttr K C_Shape "snapshots"
  m_Shape_leaves : Meth K C_Shape "leaves" r_Shape_leaves.f
  m_Shape_way : Meth K C_Shape "way" r_Shape_way.f
  m_Shape_cells : Meth K C_Shape "cells" r_Shape_cells.f
  m_Shape_ample : Meth K C_Shape "ample" r_Shape_ample.f
  C_Talk : Addr
  mg_Talk : mg "Talk" = some (.ref C_Talk)
  cl_Talk : Cls K C_Talk
  M_Talk : Mk K C_Talk r_Talk___init__.f
  na_Talk_answers : NoAttr K C_Talk "answers"
  na_Talk__request : NoAttr K C_Talk "_request"
  m_Talk_request : Meth K C_Talk "request" r_Talk_request.f
  m_Talk_has_ended : Meth K C_Talk "has_ended" r_Talk_has_ended.f
  m_Talk_answer : Meth K C_Talk "answer" r_Talk_answer.f
  m_Talk_following : Meth K C_Talk "following" r_Talk_following.f
  C_CellTalk : Addr
  mg_CellTalk : mg "CellTalk" = some (.ref C_CellTalk)
  cl_CellTalk : Cls K C_CellTalk
  m_CellTalk_following : Meth K C_CellTalk "following" r_CellTalk_following.f
  m_CellTalk_accepted : Meth K C_CellTalk "accepted" r_CellTalk_accepted.f
  m_CellTalk_reading : Meth K C_CellTalk "reading" r_CellTalk_reading.f
  C_ReadTalk : Addr
  mg_ReadTalk : mg "ReadTalk" = some (.ref C_ReadTalk)
  cl_ReadTalk : Cls K C_ReadTalk
  na_ReadTalk_answers : NoAttr K C_ReadTalk "answers"
  na_ReadTalk__request : NoAttr K C_ReadTalk "_request"
  na_ReadTalk__sealer : NoAttr K C_ReadTalk "_sealer"
  na_ReadTalk__entry : NoAttr K C_ReadTalk "_entry"
  na_ReadTalk_cells : NoAttr K C_ReadTalk "cells"
  na_ReadTalk__way : NoAttr K C_ReadTalk "_way"
  m_ReadTalk_accepted : Meth K C_ReadTalk "accepted" r_ReadTalk_accepted.f
  m_ReadTalk_answer : Meth K C_ReadTalk "answer" r_Talk_answer.f
  m_ReadTalk_following : Meth K C_ReadTalk "following" r_CellTalk_following.f
  m_ReadTalk_has_ended : Meth K C_ReadTalk "has_ended" r_Talk_has_ended.f
  m_ReadTalk_reading : Meth K C_ReadTalk "reading" r_CellTalk_reading.f
  m_ReadTalk_request : Meth K C_ReadTalk "request" r_Talk_request.f
  C_ScanTalk : Addr
  mg_ScanTalk : mg "ScanTalk" = some (.ref C_ScanTalk)
  cl_ScanTalk : Cls K C_ScanTalk
  na_ScanTalk_answers : NoAttr K C_ScanTalk "answers"
  na_ScanTalk__request : NoAttr K C_ScanTalk "_request"
  na_ScanTalk__sealer : NoAttr K C_ScanTalk "_sealer"
  na_ScanTalk__entry : NoAttr K C_ScanTalk "_entry"
  na_ScanTalk__depth : NoAttr K C_ScanTalk "_depth"
  na_ScanTalk__levels : NoAttr K C_ScanTalk "_levels"
  na_ScanTalk__entries : NoAttr K C_ScanTalk "_entries"
  m_ScanTalk_note : Meth K C_ScanTalk "note" r_ScanTalk_note.f
  m_ScanTalk_accepted : Meth K C_ScanTalk "accepted" r_ScanTalk_accepted.f
  m_ScanTalk_answer : Meth K C_ScanTalk "answer" r_Talk_answer.f
  m_ScanTalk_following : Meth K C_ScanTalk "following" r_CellTalk_following.f
  m_ScanTalk_has_ended : Meth K C_ScanTalk "has_ended" r_Talk_has_ended.f
  m_ScanTalk_reading : Meth K C_ScanTalk "reading" r_CellTalk_reading.f
  m_ScanTalk_request : Meth K C_ScanTalk "request" r_Talk_request.f
  f_CellTalk___init__ : Addr
  d_CellTalk___init__ : FuncData
  cda_CellTalk___init__ : Addr
  cc_CellTalk___init__ : Addr
  file_CellTalk___init__ : Str
  lk_CellTalk___init__ : ∃ (oc : Value) (od an : Option Addr) (osl : Array (Option Value)) (kV doc pm ct : Value), d_CellTalk___init__ = PySem.W.ksFn "__init__" "CellTalk.__init__" (defArgs s_CellTalk___init__) (defBody s_CellTalk___init__) (defScope s_CellTalk___init__) .none kV doc pm an (.ref cda_CellTalk___init__) ct cc_CellTalk___init__ ∧ K.lookup f_CellTalk___init__ = some ⟨oc, od, .func d_CellTalk___init__, osl⟩ ∧ PySem.W.codeIn K (.ref cda_CellTalk___init__) "CellTalk.__init__" = true
  f_ReadTalk___init__ : Addr
  d_ReadTalk___init__ : FuncData
  cda_ReadTalk___init__ : Addr
  cc_ReadTalk___init__ : Addr
  file_ReadTalk___init__ : Str
  lk_ReadTalk___init__ : ∃ (oc : Value) (od an : Option Addr) (osl : Array (Option Value)) (kV doc pm ct : Value), d_ReadTalk___init__ = PySem.W.ksFn "__init__" "ReadTalk.__init__" (defArgs s_ReadTalk___init__) (defBody s_ReadTalk___init__) (defScope s_ReadTalk___init__) .none kV doc pm an (.ref cda_ReadTalk___init__) ct cc_ReadTalk___init__ ∧ K.lookup f_ReadTalk___init__ = some ⟨oc, od, .func d_ReadTalk___init__, osl⟩ ∧ PySem.W.codeIn K (.ref cda_ReadTalk___init__) "ReadTalk.__init__" = true
  f_ScanTalk___init__ : Addr
  d_ScanTalk___init__ : FuncData
  cda_ScanTalk___init__ : Addr
  cc_ScanTalk___init__ : Addr
  file_ScanTalk___init__ : Str
  lk_ScanTalk___init__ : ∃ (oc : Value) (od an : Option Addr) (osl : Array (Option Value)) (kV doc pm ct : Value), d_ScanTalk___init__ = PySem.W.ksFn "__init__" "ScanTalk.__init__" (defArgs s_ScanTalk___init__) (defBody s_ScanTalk___init__) (defScope s_ScanTalk___init__) .none kV doc pm an (.ref cda_ScanTalk___init__) ct cc_ScanTalk___init__ ∧ K.lookup f_ScanTalk___init__ = some ⟨oc, od, .func d_ScanTalk___init__, osl⟩ ∧ PySem.W.codeIn K (.ref cda_ScanTalk___init__) "ScanTalk.__init__" = true
  so_CellTalk___init___ReadTalk : SupO file_CellTalk___init__ K C_ReadTalk C_CellTalk cc_CellTalk___init__ cda_CellTalk___init__ r_Talk___init__.f "__init__" (defArgs s_CellTalk___init__)
  so_CellTalk___init___ScanTalk : SupO file_CellTalk___init__ K C_ScanTalk C_CellTalk cc_CellTalk___init__ cda_CellTalk___init__ r_Talk___init__.f "__init__" (defArgs s_CellTalk___init__)
  M_CellTalk : Mk K C_CellTalk f_CellTalk___init__
  so_ReadTalk___init___ReadTalk : SupO file_ReadTalk___init__ K C_ReadTalk C_ReadTalk cc_ReadTalk___init__ cda_ReadTalk___init__ f_CellTalk___init__ "__init__" (defArgs s_ReadTalk___init__)
  M_ReadTalk : Mk K C_ReadTalk f_ReadTalk___init__
  so_ScanTalk___init___ScanTalk : SupO file_ScanTalk___init__ K C_ScanTalk C_ScanTalk cc_ScanTalk___init__ cda_ScanTalk___init__ f_CellTalk___init__ "__init__" (defArgs s_ScanTalk___init__)
  M_ScanTalk : Mk K C_ScanTalk f_ScanTalk___init__
  t_MOST_DEPTH : Tok
  mg_MOST_DEPTH : mg "MOST_DEPTH" = some (.int 6 t_MOST_DEPTH)
  t_MOST_LEAVES : Tok
  mg_MOST_LEAVES : mg "MOST_LEAVES" = some (.int 64 t_MOST_LEAVES)
  t_MOST_BLOCKS : Tok
  mg_MOST_BLOCKS : mg "MOST_BLOCKS" = some (.int 1000 t_MOST_BLOCKS)
  z_range : mg "range" = none
  z_len : mg "len" = none
  z_abs : mg "abs" = none
  z_int : mg "int" = none
  z_sum : mg "sum" = none
  z_min : mg "min" = none
  z_max : mg "max" = none
  z_isinstance : mg "isinstance" = none
  z_tuple : mg "tuple" = none
  z_list : mg "list" = none
  z_zip : mg "zip" = none
  z_bool : mg "bool" = none
  z_super : mg "super" = none
  z_sorted : mg "sorted" = none
abbrev Txt.f_leaf {K : PySem.W.Frag} {mg : Str → Option Value} (T : Txt K mg) : Addr := T.r_leaf.f
abbrev Txt.d_leaf {K : PySem.W.Frag} {mg : Str → Option Value} (T : Txt K mg) : FuncData := T.r_leaf.d
theorem Txt.F_leaf {K : PySem.W.Frag} {mg : Str → Option Value} (T : Txt K mg) : Fun K "leaf" "leaf" s_leaf T.f_leaf T.d_leaf := T.r_leaf.F
theorem Txt.b_leaf {K : PySem.W.Frag} {mg : Str → Option Value} (T : Txt K mg) : Binds K T.d_leaf p_leaf [] := T.r_leaf.b
abbrev Txt.f_node {K : PySem.W.Frag} {mg : Str → Option Value} (T : Txt K mg) : Addr := T.r_node.f
abbrev Txt.d_node {K : PySem.W.Frag} {mg : Str → Option Value} (T : Txt K mg) : FuncData := T.r_node.d
theorem Txt.F_node {K : PySem.W.Frag} {mg : Str → Option Value} (T : Txt K mg) : Fun K "node" "node" s_node T.f_node T.d_node := T.r_node.F
theorem Txt.b_node {K : PySem.W.Frag} {mg : Str → Option Value} (T : Txt K mg) : Binds K T.d_node p_node [] := T.r_node.b
abbrev Txt.f_parts {K : PySem.W.Frag} {mg : Str → Option Value} (T : Txt K mg) : Addr := T.r_parts.f
abbrev Txt.d_parts {K : PySem.W.Frag} {mg : Str → Option Value} (T : Txt K mg) : FuncData := T.r_parts.d
theorem Txt.F_parts {K : PySem.W.Frag} {mg : Str → Option Value} (T : Txt K mg) : Fun K "parts" "parts" s_parts T.f_parts T.d_parts := T.r_parts.F
theorem Txt.b_parts {K : PySem.W.Frag} {mg : Str → Option Value} (T : Txt K mg) : Binds K T.d_parts p_parts [] := T.r_parts.b
abbrev Txt.f_blank_volume {K : PySem.W.Frag} {mg : Str → Option Value} (T : Txt K mg) : Addr := T.r_blank_volume.f
abbrev Txt.d_blank_volume {K : PySem.W.Frag} {mg : Str → Option Value} (T : Txt K mg) : FuncData := T.r_blank_volume.d
theorem Txt.F_blank_volume {K : PySem.W.Frag} {mg : Str → Option Value} (T : Txt K mg) : Fun K "blank_volume" "blank_volume" s_blank_volume T.f_blank_volume T.d_blank_volume := T.r_blank_volume.F
theorem Txt.b_blank_volume {K : PySem.W.Frag} {mg : Str → Option Value} (T : Txt K mg) : Binds K T.d_blank_volume p_blank_volume [] := T.r_blank_volume.b
abbrev Txt.f_spelled {K : PySem.W.Frag} {mg : Str → Option Value} (T : Txt K mg) : Addr := T.r_spelled.f
abbrev Txt.d_spelled {K : PySem.W.Frag} {mg : Str → Option Value} (T : Txt K mg) : FuncData := T.r_spelled.d
theorem Txt.F_spelled {K : PySem.W.Frag} {mg : Str → Option Value} (T : Txt K mg) : Fun K "spelled" "spelled" s_spelled T.f_spelled T.d_spelled := T.r_spelled.F
theorem Txt.b_spelled {K : PySem.W.Frag} {mg : Str → Option Value} (T : Txt K mg) : Binds K T.d_spelled p_spelled [] := T.r_spelled.b
abbrev Txt.f_is_same {K : PySem.W.Frag} {mg : Str → Option Value} (T : Txt K mg) : Addr := T.r_is_same.f
abbrev Txt.d_is_same {K : PySem.W.Frag} {mg : Str → Option Value} (T : Txt K mg) : FuncData := T.r_is_same.d
theorem Txt.F_is_same {K : PySem.W.Frag} {mg : Str → Option Value} (T : Txt K mg) : Fun K "is_same" "is_same" s_is_same T.f_is_same T.d_is_same := T.r_is_same.F
theorem Txt.b_is_same {K : PySem.W.Frag} {mg : Str → Option Value} (T : Txt K mg) : Binds K T.d_is_same p_is_same [] := T.r_is_same.b
abbrev Txt.f_Sealer___init__ {K : PySem.W.Frag} {mg : Str → Option Value} (T : Txt K mg) : Addr := T.r_Sealer___init__.f
abbrev Txt.d_Sealer___init__ {K : PySem.W.Frag} {mg : Str → Option Value} (T : Txt K mg) : FuncData := T.r_Sealer___init__.d
theorem Txt.F_Sealer___init__ {K : PySem.W.Frag} {mg : Str → Option Value} (T : Txt K mg) : Fun K "__init__" "Sealer.__init__" s_Sealer___init__ T.f_Sealer___init__ T.d_Sealer___init__ := T.r_Sealer___init__.F
theorem Txt.b_Sealer___init__ {K : PySem.W.Frag} {mg : Str → Option Value} (T : Txt K mg) : Binds K T.d_Sealer___init__ p_Sealer___init__ [] := T.r_Sealer___init__.b
abbrev Txt.f_Sealer_mark {K : PySem.W.Frag} {mg : Str → Option Value} (T : Txt K mg) : Addr := T.r_Sealer_mark.f
abbrev Txt.d_Sealer_mark {K : PySem.W.Frag} {mg : Str → Option Value} (T : Txt K mg) : FuncData := T.r_Sealer_mark.d
theorem Txt.F_Sealer_mark {K : PySem.W.Frag} {mg : Str → Option Value} (T : Txt K mg) : Fun K "mark" "Sealer.mark" s_Sealer_mark T.f_Sealer_mark T.d_Sealer_mark := T.r_Sealer_mark.F
theorem Txt.b_Sealer_mark {K : PySem.W.Frag} {mg : Str → Option Value} (T : Txt K mg) : Binds K T.d_Sealer_mark p_Sealer_mark [] := T.r_Sealer_mark.b
abbrev Txt.f_Sealer_knows {K : PySem.W.Frag} {mg : Str → Option Value} (T : Txt K mg) : Addr := T.r_Sealer_knows.f
abbrev Txt.d_Sealer_knows {K : PySem.W.Frag} {mg : Str → Option Value} (T : Txt K mg) : FuncData := T.r_Sealer_knows.d
theorem Txt.F_Sealer_knows {K : PySem.W.Frag} {mg : Str → Option Value} (T : Txt K mg) : Fun K "knows" "Sealer.knows" s_Sealer_knows T.f_Sealer_knows T.d_Sealer_knows := T.r_Sealer_knows.F
theorem Txt.b_Sealer_knows {K : PySem.W.Frag} {mg : Str → Option Value} (T : Txt K mg) : Binds K T.d_Sealer_knows p_Sealer_knows [] := T.r_Sealer_knows.b
abbrev Txt.f_leaves_below {K : PySem.W.Frag} {mg : Str → Option Value} (T : Txt K mg) : Addr := T.r_leaves_below.f
abbrev Txt.d_leaves_below {K : PySem.W.Frag} {mg : Str → Option Value} (T : Txt K mg) : FuncData := T.r_leaves_below.d
theorem Txt.F_leaves_below {K : PySem.W.Frag} {mg : Str → Option Value} (T : Txt K mg) : Fun K "leaves_below" "leaves_below" s_leaves_below T.f_leaves_below T.d_leaves_below := T.r_leaves_below.F
theorem Txt.b_leaves_below {K : PySem.W.Frag} {mg : Str → Option Value} (T : Txt K mg) : Binds K T.d_leaves_below p_leaves_below [] := T.r_leaves_below.b
abbrev Txt.f_is_depth {K : PySem.W.Frag} {mg : Str → Option Value} (T : Txt K mg) : Addr := T.r_is_depth.f
abbrev Txt.d_is_depth {K : PySem.W.Frag} {mg : Str → Option Value} (T : Txt K mg) : FuncData := T.r_is_depth.d
theorem Txt.F_is_depth {K : PySem.W.Frag} {mg : Str → Option Value} (T : Txt K mg) : Fun K "is_depth" "is_depth" s_is_depth T.f_is_depth T.d_is_depth := T.r_is_depth.F
theorem Txt.b_is_depth {K : PySem.W.Frag} {mg : Str → Option Value} (T : Txt K mg) : Binds K T.d_is_depth p_is_depth [] := T.r_is_depth.b
abbrev Txt.f_out_of_range {K : PySem.W.Frag} {mg : Str → Option Value} (T : Txt K mg) : Addr := T.r_out_of_range.f
abbrev Txt.d_out_of_range {K : PySem.W.Frag} {mg : Str → Option Value} (T : Txt K mg) : FuncData := T.r_out_of_range.d
theorem Txt.F_out_of_range {K : PySem.W.Frag} {mg : Str → Option Value} (T : Txt K mg) : Fun K "out_of_range" "out_of_range" s_out_of_range T.f_out_of_range T.d_out_of_range := T.r_out_of_range.F
theorem Txt.b_out_of_range {K : PySem.W.Frag} {mg : Str → Option Value} (T : Txt K mg) : Binds K T.d_out_of_range p_out_of_range [] := T.r_out_of_range.b
abbrev Txt.f_Shape_leaves {K : PySem.W.Frag} {mg : Str → Option Value} (T : Txt K mg) : Addr := T.r_Shape_leaves.f
abbrev Txt.d_Shape_leaves {K : PySem.W.Frag} {mg : Str → Option Value} (T : Txt K mg) : FuncData := T.r_Shape_leaves.d
theorem Txt.F_Shape_leaves {K : PySem.W.Frag} {mg : Str → Option Value} (T : Txt K mg) : Fun K "leaves" "Shape.leaves" s_Shape_leaves T.f_Shape_leaves T.d_Shape_leaves := T.r_Shape_leaves.F
theorem Txt.b_Shape_leaves {K : PySem.W.Frag} {mg : Str → Option Value} (T : Txt K mg) : Binds K T.d_Shape_leaves p_Shape_leaves [] := T.r_Shape_leaves.b
abbrev Txt.f_Shape_way {K : PySem.W.Frag} {mg : Str → Option Value} (T : Txt K mg) : Addr := T.r_Shape_way.f
abbrev Txt.d_Shape_way {K : PySem.W.Frag} {mg : Str → Option Value} (T : Txt K mg) : FuncData := T.r_Shape_way.d
theorem Txt.F_Shape_way {K : PySem.W.Frag} {mg : Str → Option Value} (T : Txt K mg) : Fun K "way" "Shape.way" s_Shape_way T.f_Shape_way T.d_Shape_way := T.r_Shape_way.F
theorem Txt.b_Shape_way {K : PySem.W.Frag} {mg : Str → Option Value} (T : Txt K mg) : Binds K T.d_Shape_way p_Shape_way [] := T.r_Shape_way.b
abbrev Txt.f_Shape_cells {K : PySem.W.Frag} {mg : Str → Option Value} (T : Txt K mg) : Addr := T.r_Shape_cells.f
abbrev Txt.d_Shape_cells {K : PySem.W.Frag} {mg : Str → Option Value} (T : Txt K mg) : FuncData := T.r_Shape_cells.d
theorem Txt.F_Shape_cells {K : PySem.W.Frag} {mg : Str → Option Value} (T : Txt K mg) : Fun K "cells" "Shape.cells" s_Shape_cells T.f_Shape_cells T.d_Shape_cells := T.r_Shape_cells.F
theorem Txt.b_Shape_cells {K : PySem.W.Frag} {mg : Str → Option Value} (T : Txt K mg) : Binds K T.d_Shape_cells p_Shape_cells [] := T.r_Shape_cells.b
abbrev Txt.f_Shape_ample {K : PySem.W.Frag} {mg : Str → Option Value} (T : Txt K mg) : Addr := T.r_Shape_ample.f
abbrev Txt.d_Shape_ample {K : PySem.W.Frag} {mg : Str → Option Value} (T : Txt K mg) : FuncData := T.r_Shape_ample.d
theorem Txt.F_Shape_ample {K : PySem.W.Frag} {mg : Str → Option Value} (T : Txt K mg) : Fun K "ample" "Shape.ample" s_Shape_ample T.f_Shape_ample T.d_Shape_ample := T.r_Shape_ample.F
theorem Txt.b_Shape_ample {K : PySem.W.Frag} {mg : Str → Option Value} (T : Txt K mg) : Binds K T.d_Shape_ample p_Shape_ample [] := T.r_Shape_ample.b
abbrev Txt.f_apart {K : PySem.W.Frag} {mg : Str → Option Value} (T : Txt K mg) : Addr := T.r_apart.f
abbrev Txt.d_apart {K : PySem.W.Frag} {mg : Str → Option Value} (T : Txt K mg) : FuncData := T.r_apart.d
theorem Txt.F_apart {K : PySem.W.Frag} {mg : Str → Option Value} (T : Txt K mg) : Fun K "apart" "apart" s_apart T.f_apart T.d_apart := T.r_apart.F
theorem Txt.b_apart {K : PySem.W.Frag} {mg : Str → Option Value} (T : Txt K mg) : Binds K T.d_apart p_apart [] := T.r_apart.b
abbrev Txt.f_Talk___init__ {K : PySem.W.Frag} {mg : Str → Option Value} (T : Txt K mg) : Addr := T.r_Talk___init__.f
abbrev Txt.d_Talk___init__ {K : PySem.W.Frag} {mg : Str → Option Value} (T : Txt K mg) : FuncData := T.r_Talk___init__.d
theorem Txt.F_Talk___init__ {K : PySem.W.Frag} {mg : Str → Option Value} (T : Txt K mg) : Fun K "__init__" "Talk.__init__" s_Talk___init__ T.f_Talk___init__ T.d_Talk___init__ := T.r_Talk___init__.F
theorem Txt.b_Talk___init__ {K : PySem.W.Frag} {mg : Str → Option Value} (T : Txt K mg) : Binds K T.d_Talk___init__ p_Talk___init__ [] := T.r_Talk___init__.b
abbrev Txt.f_Talk_request {K : PySem.W.Frag} {mg : Str → Option Value} (T : Txt K mg) : Addr := T.r_Talk_request.f
abbrev Txt.d_Talk_request {K : PySem.W.Frag} {mg : Str → Option Value} (T : Txt K mg) : FuncData := T.r_Talk_request.d
theorem Txt.F_Talk_request {K : PySem.W.Frag} {mg : Str → Option Value} (T : Txt K mg) : Fun K "request" "Talk.request" s_Talk_request T.f_Talk_request T.d_Talk_request := T.r_Talk_request.F
theorem Txt.b_Talk_request {K : PySem.W.Frag} {mg : Str → Option Value} (T : Txt K mg) : Binds K T.d_Talk_request p_Talk_request [] := T.r_Talk_request.b
abbrev Txt.f_Talk_has_ended {K : PySem.W.Frag} {mg : Str → Option Value} (T : Txt K mg) : Addr := T.r_Talk_has_ended.f
abbrev Txt.d_Talk_has_ended {K : PySem.W.Frag} {mg : Str → Option Value} (T : Txt K mg) : FuncData := T.r_Talk_has_ended.d
theorem Txt.F_Talk_has_ended {K : PySem.W.Frag} {mg : Str → Option Value} (T : Txt K mg) : Fun K "has_ended" "Talk.has_ended" s_Talk_has_ended T.f_Talk_has_ended T.d_Talk_has_ended := T.r_Talk_has_ended.F
theorem Txt.b_Talk_has_ended {K : PySem.W.Frag} {mg : Str → Option Value} (T : Txt K mg) : Binds K T.d_Talk_has_ended p_Talk_has_ended [] := T.r_Talk_has_ended.b
abbrev Txt.f_Talk_answer {K : PySem.W.Frag} {mg : Str → Option Value} (T : Txt K mg) : Addr := T.r_Talk_answer.f
abbrev Txt.d_Talk_answer {K : PySem.W.Frag} {mg : Str → Option Value} (T : Txt K mg) : FuncData := T.r_Talk_answer.d
theorem Txt.F_Talk_answer {K : PySem.W.Frag} {mg : Str → Option Value} (T : Txt K mg) : Fun K "answer" "Talk.answer" s_Talk_answer T.f_Talk_answer T.d_Talk_answer := T.r_Talk_answer.F
theorem Txt.b_Talk_answer {K : PySem.W.Frag} {mg : Str → Option Value} (T : Txt K mg) : Binds K T.d_Talk_answer p_Talk_answer [] := T.r_Talk_answer.b
abbrev Txt.f_Talk_following {K : PySem.W.Frag} {mg : Str → Option Value} (T : Txt K mg) : Addr := T.r_Talk_following.f
abbrev Txt.d_Talk_following {K : PySem.W.Frag} {mg : Str → Option Value} (T : Txt K mg) : FuncData := T.r_Talk_following.d
theorem Txt.F_Talk_following {K : PySem.W.Frag} {mg : Str → Option Value} (T : Txt K mg) : Fun K "following" "Talk.following" s_Talk_following T.f_Talk_following T.d_Talk_following := T.r_Talk_following.F
theorem Txt.b_Talk_following {K : PySem.W.Frag} {mg : Str → Option Value} (T : Txt K mg) : Binds K T.d_Talk_following p_Talk_following [] := T.r_Talk_following.b
abbrev Txt.f_CellTalk_following {K : PySem.W.Frag} {mg : Str → Option Value} (T : Txt K mg) : Addr := T.r_CellTalk_following.f
abbrev Txt.d_CellTalk_following {K : PySem.W.Frag} {mg : Str → Option Value} (T : Txt K mg) : FuncData := T.r_CellTalk_following.d
theorem Txt.F_CellTalk_following {K : PySem.W.Frag} {mg : Str → Option Value} (T : Txt K mg) : Fun K "following" "CellTalk.following" s_CellTalk_following T.f_CellTalk_following T.d_CellTalk_following := T.r_CellTalk_following.F
theorem Txt.b_CellTalk_following {K : PySem.W.Frag} {mg : Str → Option Value} (T : Txt K mg) : Binds K T.d_CellTalk_following p_CellTalk_following [] := T.r_CellTalk_following.b
abbrev Txt.f_CellTalk_accepted {K : PySem.W.Frag} {mg : Str → Option Value} (T : Txt K mg) : Addr := T.r_CellTalk_accepted.f
abbrev Txt.d_CellTalk_accepted {K : PySem.W.Frag} {mg : Str → Option Value} (T : Txt K mg) : FuncData := T.r_CellTalk_accepted.d
theorem Txt.F_CellTalk_accepted {K : PySem.W.Frag} {mg : Str → Option Value} (T : Txt K mg) : Fun K "accepted" "CellTalk.accepted" s_CellTalk_accepted T.f_CellTalk_accepted T.d_CellTalk_accepted := T.r_CellTalk_accepted.F
theorem Txt.b_CellTalk_accepted {K : PySem.W.Frag} {mg : Str → Option Value} (T : Txt K mg) : Binds K T.d_CellTalk_accepted p_CellTalk_accepted [] := T.r_CellTalk_accepted.b
abbrev Txt.f_CellTalk_reading {K : PySem.W.Frag} {mg : Str → Option Value} (T : Txt K mg) : Addr := T.r_CellTalk_reading.f
abbrev Txt.d_CellTalk_reading {K : PySem.W.Frag} {mg : Str → Option Value} (T : Txt K mg) : FuncData := T.r_CellTalk_reading.d
theorem Txt.F_CellTalk_reading {K : PySem.W.Frag} {mg : Str → Option Value} (T : Txt K mg) : Fun K "reading" "CellTalk.reading" s_CellTalk_reading T.f_CellTalk_reading T.d_CellTalk_reading := T.r_CellTalk_reading.F
theorem Txt.b_CellTalk_reading {K : PySem.W.Frag} {mg : Str → Option Value} (T : Txt K mg) : Binds K T.d_CellTalk_reading p_CellTalk_reading [] := T.r_CellTalk_reading.b
abbrev Txt.f_ReadTalk_accepted {K : PySem.W.Frag} {mg : Str → Option Value} (T : Txt K mg) : Addr := T.r_ReadTalk_accepted.f
abbrev Txt.d_ReadTalk_accepted {K : PySem.W.Frag} {mg : Str → Option Value} (T : Txt K mg) : FuncData := T.r_ReadTalk_accepted.d
theorem Txt.F_ReadTalk_accepted {K : PySem.W.Frag} {mg : Str → Option Value} (T : Txt K mg) : Fun K "accepted" "ReadTalk.accepted" s_ReadTalk_accepted T.f_ReadTalk_accepted T.d_ReadTalk_accepted := T.r_ReadTalk_accepted.F
theorem Txt.b_ReadTalk_accepted {K : PySem.W.Frag} {mg : Str → Option Value} (T : Txt K mg) : Binds K T.d_ReadTalk_accepted p_ReadTalk_accepted [] := T.r_ReadTalk_accepted.b
abbrev Txt.f_ScanTalk_note {K : PySem.W.Frag} {mg : Str → Option Value} (T : Txt K mg) : Addr := T.r_ScanTalk_note.f
abbrev Txt.d_ScanTalk_note {K : PySem.W.Frag} {mg : Str → Option Value} (T : Txt K mg) : FuncData := T.r_ScanTalk_note.d
theorem Txt.F_ScanTalk_note {K : PySem.W.Frag} {mg : Str → Option Value} (T : Txt K mg) : Fun K "note" "ScanTalk.note" s_ScanTalk_note T.f_ScanTalk_note T.d_ScanTalk_note := T.r_ScanTalk_note.F
theorem Txt.b_ScanTalk_note {K : PySem.W.Frag} {mg : Str → Option Value} (T : Txt K mg) : Binds K T.d_ScanTalk_note p_ScanTalk_note [] := T.r_ScanTalk_note.b
abbrev Txt.f_ScanTalk_accepted {K : PySem.W.Frag} {mg : Str → Option Value} (T : Txt K mg) : Addr := T.r_ScanTalk_accepted.f
abbrev Txt.d_ScanTalk_accepted {K : PySem.W.Frag} {mg : Str → Option Value} (T : Txt K mg) : FuncData := T.r_ScanTalk_accepted.d
theorem Txt.F_ScanTalk_accepted {K : PySem.W.Frag} {mg : Str → Option Value} (T : Txt K mg) : Fun K "accepted" "ScanTalk.accepted" s_ScanTalk_accepted T.f_ScanTalk_accepted T.d_ScanTalk_accepted := T.r_ScanTalk_accepted.F
theorem Txt.b_ScanTalk_accepted {K : PySem.W.Frag} {mg : Str → Option Value} (T : Txt K mg) : Binds K T.d_ScanTalk_accepted p_ScanTalk_accepted [] := T.r_ScanTalk_accepted.b
abbrev Txt.f_mount {K : PySem.W.Frag} {mg : Str → Option Value} (T : Txt K mg) : Addr := T.r_mount.f
abbrev Txt.d_mount {K : PySem.W.Frag} {mg : Str → Option Value} (T : Txt K mg) : FuncData := T.r_mount.d
theorem Txt.F_mount {K : PySem.W.Frag} {mg : Str → Option Value} (T : Txt K mg) : Fun K "mount" "mount" s_mount T.f_mount T.d_mount := T.r_mount.F
theorem Txt.b_mount {K : PySem.W.Frag} {mg : Str → Option Value} (T : Txt K mg) : Binds K T.d_mount p_mount [] := T.r_mount.b
abbrev Txt.f__law_state {K : PySem.W.Frag} {mg : Str → Option Value} (T : Txt K mg) : Addr := T.r__law_state.f
abbrev Txt.d__law_state {K : PySem.W.Frag} {mg : Str → Option Value} (T : Txt K mg) : FuncData := T.r__law_state.d
theorem Txt.F__law_state {K : PySem.W.Frag} {mg : Str → Option Value} (T : Txt K mg) : Fun K "_law_state" "_law_state" s__law_state T.f__law_state T.d__law_state := T.r__law_state.F
theorem Txt.b__law_state {K : PySem.W.Frag} {mg : Str → Option Value} (T : Txt K mg) : Binds K T.d__law_state p__law_state [] := T.r__law_state.b
abbrev Txt.f__law_draw {K : PySem.W.Frag} {mg : Str → Option Value} (T : Txt K mg) : Addr := T.r__law_draw.f
abbrev Txt.d__law_draw {K : PySem.W.Frag} {mg : Str → Option Value} (T : Txt K mg) : FuncData := T.r__law_draw.d
theorem Txt.F__law_draw {K : PySem.W.Frag} {mg : Str → Option Value} (T : Txt K mg) : Fun K "_law_draw" "_law_draw" s__law_draw T.f__law_draw T.d__law_draw := T.r__law_draw.F
theorem Txt.b__law_draw {K : PySem.W.Frag} {mg : Str → Option Value} (T : Txt K mg) : Binds K T.d__law_draw p__law_draw [] := T.r__law_draw.b
abbrev Txt.f__law_shape {K : PySem.W.Frag} {mg : Str → Option Value} (T : Txt K mg) : Addr := T.r__law_shape.f
abbrev Txt.d__law_shape {K : PySem.W.Frag} {mg : Str → Option Value} (T : Txt K mg) : FuncData := T.r__law_shape.d
theorem Txt.F__law_shape {K : PySem.W.Frag} {mg : Str → Option Value} (T : Txt K mg) : Fun K "_law_shape" "_law_shape" s__law_shape T.f__law_shape T.d__law_shape := T.r__law_shape.F
theorem Txt.b__law_shape {K : PySem.W.Frag} {mg : Str → Option Value} (T : Txt K mg) : Binds K T.d__law_shape p__law_shape [] := T.r__law_shape.b
abbrev Txt.f__law_leaves {K : PySem.W.Frag} {mg : Str → Option Value} (T : Txt K mg) : Addr := T.r__law_leaves.f
abbrev Txt.d__law_leaves {K : PySem.W.Frag} {mg : Str → Option Value} (T : Txt K mg) : FuncData := T.r__law_leaves.d
theorem Txt.F__law_leaves {K : PySem.W.Frag} {mg : Str → Option Value} (T : Txt K mg) : Fun K "_law_leaves" "_law_leaves" s__law_leaves T.f__law_leaves T.d__law_leaves := T.r__law_leaves.F
theorem Txt.b__law_leaves {K : PySem.W.Frag} {mg : Str → Option Value} (T : Txt K mg) : Binds K T.d__law_leaves p__law_leaves [] := T.r__law_leaves.b
abbrev Txt.f__law_words {K : PySem.W.Frag} {mg : Str → Option Value} (T : Txt K mg) : Addr := T.r__law_words.f
abbrev Txt.d__law_words {K : PySem.W.Frag} {mg : Str → Option Value} (T : Txt K mg) : FuncData := T.r__law_words.d
theorem Txt.F__law_words {K : PySem.W.Frag} {mg : Str → Option Value} (T : Txt K mg) : Fun K "_law_words" "_law_words" s__law_words T.f__law_words T.d__law_words := T.r__law_words.F
theorem Txt.b__law_words {K : PySem.W.Frag} {mg : Str → Option Value} (T : Txt K mg) : Binds K T.d__law_words p__law_words [] := T.r__law_words.b
abbrev Txt.f__law_drive {K : PySem.W.Frag} {mg : Str → Option Value} (T : Txt K mg) : Addr := T.r__law_drive.f
abbrev Txt.d__law_drive {K : PySem.W.Frag} {mg : Str → Option Value} (T : Txt K mg) : FuncData := T.r__law_drive.d
theorem Txt.F__law_drive {K : PySem.W.Frag} {mg : Str → Option Value} (T : Txt K mg) : Fun K "_law_drive" "_law_drive" s__law_drive T.f__law_drive T.d__law_drive := T.r__law_drive.F
theorem Txt.b__law_drive {K : PySem.W.Frag} {mg : Str → Option Value} (T : Txt K mg) : Binds K T.d__law_drive p__law_drive [] := T.r__law_drive.b
abbrev Txt.f_law {K : PySem.W.Frag} {mg : Str → Option Value} (T : Txt K mg) : Addr := T.r_law.f
abbrev Txt.d_law {K : PySem.W.Frag} {mg : Str → Option Value} (T : Txt K mg) : FuncData := T.r_law.d
theorem Txt.F_law {K : PySem.W.Frag} {mg : Str → Option Value} (T : Txt K mg) : Fun K "law" "law" s_law T.f_law T.d_law := T.r_law.F
theorem Txt.b_law {K : PySem.W.Frag} {mg : Str → Option Value} (T : Txt K mg) : Binds K T.d_law p_law [] := T.r_law.b
structure TxF {K : PySem.W.Frag} {mg : Str → Option Value} (P : Program) (T : Txt K mg) : Prop where
  hs_CellTalk___init__ : ((P.main.file : Str) == T.file_CellTalk___init__) = true ∧ (P.main.scope.names.lookup ("super" : Str)).isSome = false
  hs_ReadTalk___init__ : ((P.main.file : Str) == T.file_ReadTalk___init__) = true ∧ (P.main.scope.names.lookup ("super" : Str)).isSome = false
  hs_ScanTalk___init__ : ((P.main.file : Str) == T.file_ScanTalk___init__) = true ∧ (P.main.scope.names.lookup ("super" : Str)).isSome = false
/-! ### the law's own stream of numbers -/
/-- at a: the list of the numbers left (at c) and the seed -/
def StA (a c : Addr) (H : Hp) : Prop := ∃ (ns : List Int) (z : Int), a ≠ c ∧ H a = some (.lst [.ref c, .int z]) ∧ H c = some (.lst (ns.map V.int)) ∧ ns.length ≤ 63 ∧ (∀ n ∈ ns, 0 ≤ n) ∧ 0 ≤ z ∧ z < 2147483647
/-- nothing else that stood has changed -/
def Kp (a c : Addr) (H H' : Hp) : Prop := ∀ b o, b ≠ a → b ≠ c → H b = some o → H' b = some o
theorem Kp.refl {a c : Addr} (H : Hp) : Kp a c H H := fun _ _ _ _ h => h
theorem Kp.trans {a c : Addr} {H H1 H2 : Hp} (x : Kp a c H H1) (y : Kp a c H1 H2) : Kp a c H H2 := fun b o h1 h2 e => y b o h1 h2 (x b o h1 h2 e)
theorem Kp.upd1 {a c : Addr} {H H1 : Hp} {o : HO} (x : Kp a c H H1) : Kp a c H (upd H1 a o) := fun b o h1 h2 e => (upd_ne h1).trans (x b o h1 h2 e)
theorem Kp.upd2 {a c : Addr} {H H1 : Hp} {o : HO} (x : Kp a c H H1) : Kp a c H (upd H1 c o) := fun b o h1 h2 e => (upd_ne h2).trans (x b o h1 h2 e)
theorem Kp.same {a c : Addr} {H H1 : Hp} (x : Same H H1) : Kp a c H H1 := fun b o _ _ e => x b o e
theorem Same.new {H : Hp} {p : Addr} {o : HO} (h : H p = none) : Same H (upd H p o) := fun b o e => by rw [upd_ne (ne_of_none e h)]; exact e
def spState (K : PySem.W.Frag) : Sp := fun vs H Q _ => ∃ (l : Addr) (ns : List Int), vs = [.ref l] ∧ SqL K H l (ns.map V.int) ∧ ns.length ≤ 63 ∧
  ∀ (a c : Addr) (H' : Hp), H a = none → H c = none → StA a c H' → Same H H' → Q (.ref a) H'
def spDraw : Sp := fun vs H Q _ => ∃ (a c : Addr) (m : Int), vs = [.ref a, .int m] ∧ StA a c H ∧ 1 ≤ m ∧ m < 1000000 ∧
  ∀ (r : Int) (H' : Hp), 0 ≤ r → r < m → StA a c H' → Kp a c H H' → Q (.int r) H'
theorem int_at {ns : List Int} {i : Nat} {y : V} (hi : (ns.map V.int)[i]? = some y) : ∃ u, ns[i]? = some u ∧ y = V.int u := by
  rw [List.getElem?_map] at hi
  cases e : ns[i]? with
  | none => rw [e] at hi; cases hi
  | some u => rw [e] at hi; exact ⟨u, rfl, (Option.some.inj hi).symm⟩
theorem upd_eq {H : Hp} {a : Addr} {o : HO} (h : H a = some o) : upd H a o = H := by
  funext b
  by_cases e : b = a
  · rw [e, upd_same, h]
  · rw [upd_ne e]
theorem iteDT {c A B : Prop} [Decidable c] (hc : c) (h : A) : if decide c = true then A else B := by
  rw [if_pos (decide_eq_true hc)]
  exact h
theorem iteDF {c A B : Prop} [Decidable c] (hc : ¬ c) (h : B) : if decide c = true then A else B := by
  rw [if_neg (by rw [decide_eq_false hc]; decide)]
  exact h
theorem ixN_nat {n j : Nat} (h : j < n) : ixN n (j : Int) = some j := by
  unfold ixN
  rw [if_pos (by omega), if_pos (by omega)]
  simp
theorem seqIx_nat {n j : Nat} (h : j < n) : seqIndex? (j : Int) n = some j := (ixN_seq (ixN_nat h)).1
theorem StA.keep {a c : Addr} {H H' : Hp} (h : StA a c H) (k : Same H H') : StA a c H' := by
  obtain ⟨ns, z, h1, h2, h3, h4⟩ := h
  exact ⟨ns, z, h1, k _ _ h2, k _ _ h3, h4⟩
theorem StA.ne {a c : Addr} {H : Hp} (h : StA a c H) : a ≠ c := by obtain ⟨_, _, h, _⟩ := h; exact h
theorem StA.some1 {a c : Addr} {H : Hp} (h : StA a c H) : ∃ o, H a = some o := by obtain ⟨_, _, _, h, _⟩ := h; exact ⟨_, h⟩
theorem StA.some2 {a c : Addr} {H : Hp} (h : StA a c H) : ∃ o, H c = some o := by obtain ⟨_, _, _, _, h, _⟩ := h; exact ⟨_, h⟩

/-! ### shapes -/
def shF (f d w b s : Int) : List (Str × V) := [("fanout", .int f), ("depth", .int d), ("words", .int w), ("blocks", .int b), ("snapshots", .int s)]
def ShAt (C : Addr) (H : Hp) (p : Addr) (f d w b s : Int) : Prop := ∃ dx, H p = some (.ins C dx (shF f d w b s))
/-- in range -/
def ShOk (f d w b s : Int) : Prop := 2 ≤ f ∧ f ≤ 4 ∧ 1 ≤ d ∧ d ≤ 6 ∧ f ^ d.toNat ≤ 64 ∧ 1 ≤ w ∧ w ≤ 4 ∧ d + 1 ≤ b ∧ b ≤ 1000 ∧ 0 ≤ s ∧ s ≤ 3
def oor (f d w b s : Int) : Option Str := if ¬ (2 ≤ f ∧ f ≤ 4) then some ("fanout" : Str) else if ¬ (1 ≤ d ∧ d ≤ 6 ∧ f ^ d.toNat ≤ 64) then some ("depth" : Str) else
  if ¬ (1 ≤ w ∧ w ≤ 4) then some ("words" : Str) else if ¬ (d + 1 ≤ b ∧ b ≤ 1000) then some ("blocks" : Str) else if ¬ (0 ≤ s ∧ s ≤ 3) then some ("snapshots" : Str) else none
def spLB : Sp := fun vs H Q _ => ∃ f d : Int, vs = [.int f, .int d] ∧ 2 ≤ f ∧ f ≤ 4 ∧ 0 ≤ d ∧ d ≤ 6 ∧ Q (.int (f ^ d.toNat)) H
def spDp : Sp := fun vs H Q _ => ∃ f d : Int, vs = [.int f, .int d] ∧ 2 ≤ f ∧ f ≤ 4 ∧ ∀ r : Bool, (r = true ↔ (1 ≤ d ∧ d ≤ 6 ∧ f ^ d.toNat ≤ 64)) → Q (.bl r) H
def optS : Option Str → V | some x => .str x | none => .non
def spOor (C : Addr) : Sp := fun vs H Q _ => ∃ (p : Addr) (f d w b s : Int), vs = [.ref p] ∧ ShAt C H p f d w b s ∧ Q (optS (oor f d w b s)) H
def spShape (C : Addr) : Sp := fun vs H Q _ => ∃ (p dx : Addr) (f d w b s : Int), vs = [.ref p, .int f, .int d, .int w, .int b, .int s] ∧ H p = some (.ins C dx []) ∧ ShOk f d w b s ∧ Q .non (upd H p (.ins C dx (shF f d w b s)))
def spLeaves (C : Addr) : Sp := fun vs H Q _ => ∃ (p : Addr) (f d w b s : Int), vs = [.ref p] ∧ ShAt C H p f d w b s ∧ ShOk f d w b s ∧ Q (.int (f ^ d.toNat)) H
example (f d w b s : Int) : (shF f d w b s).lookup ("depth" : Str) = some (.int d) := rfl
example (f d w b s : Int) : (shF f d w b s).lookup ("way" : Str) = none := rfl
example (f d w b s : Int) : putF "snapshots" (.int s) (putF "blocks" (.int b) (putF "words" (.int w) (putF "depth" (.int d) (putF "fanout" (.int f) [])))) = shF f d w b s := rfl
/-- the digits of i to the base f, the highest of n first -/
def wayV (f : Int) (n : Nat) (i : Int) : List Int := ((List.range n).map fun j => i / f ^ j % f).reverse
theorem wayV_len (f : Int) (n : Nat) (i : Int) : (wayV f n i).length = n := by simp [wayV]
def spWay (C : Addr) : Sp := fun vs H Q _ => ∃ (p : Addr) (f d w b s i : Int), vs = [.ref p, .int i] ∧ ShAt C H p f d w b s ∧ ShOk f d w b s ∧ 0 ≤ i ∧
  ∀ (t : Addr) (H' : Hp), H t = none → Same H H' → H' t = some (.tup ((wayV f d.toNat i).map V.int)) → Q (.ref t) H'
/-- the cells of the first n levels -/
def cN (f : Int) : Nat → Int
  | 0 => 0
  | n + 1 => cN f n + f ^ n
theorem cN_bd {f : Int} {n : Nat} (h1 : 2 ≤ f) (h2 : f ≤ 4) (h3 : 1 ≤ n) (h4 : n ≤ 6) (h5 : f ^ n ≤ 64) : (n : Int) + 1 ≤ cN f (n + 1) ∧ cN f (n + 1) ≤ 127 := by
  have hf : f = 2 ∨ f = 3 ∨ f = 4 := by omega
  have hn : n = 1 ∨ n = 2 ∨ n = 3 ∨ n = 4 ∨ n = 5 ∨ n = 6 := by omega
  rcases hf with rfl | rfl | rfl <;> rcases hn with rfl | rfl | rfl | rfl | rfl | rfl <;> first | (exact absurd h5 (by decide)) | decide
def spLShape (C : Addr) : Sp := fun vs H Q _ => ∃ (a c : Addr) (j : Int), vs = [.ref a, .int j] ∧ StA a c H ∧ 0 ≤ j ∧ j ≤ 2 ∧
  ∀ (p : Addr) (f d w b s : Int) (H' : Hp), H p = none → ShAt C H' p f d w b s → ShOk f d w b s → (j = 0 → b = (s + 2) * cN f (d.toNat + 1)) → StA a c H' → Kp a c H H' → Q (.ref p) H'
def spLLeaves (C : Addr) : Sp := spLeaves C

theorem kbd_Shape {K : PySem.W.Frag} {f : Addr} {fd : FuncData} (F : FunD K "__init__" "Shape.__init__" (defArgs s_Shape___init__) (defBody s_Shape___init__) (defScope s_Shape___init__) [] [("snapshots", V.int 0)] f fd) :
    KBn K fd p_Shape___init__ 1 ["fanout", "depth", "words", "blocks", "snapshots"] (fun us ws => us ++ ws) (fun vs zs => vs ++ zs) := by
  obtain ⟨mv, h⟩ := F.kbinds0 (ps := p_Shape___init__) 1 ["fanout", "depth", "words", "blocks", "snapshots"] [] (fun us _ ws => us ++ ws) (by simp) (by simp) (fun r1 _ r3 => r1.append r3) (fun D doc pm an cdv ct us mv ws h1 _ h3 =>
    match us, ws, h1, h3 with
    | [_], [_, _, _, _, _], _, _ => rfl)
  exact h

theorem hu64 {k : Nat} {A : Around} (hr : Room k A) : A.units + 64 < cLine := by have := hr.un; omega
theorem hu65 {k : Nat} {A : Around} (hr : Room k A) : A.units + 65 < cLine := by have := hr.un; omega
/-- a key's part -/
inductive ItH (H : Hp) : Item → V → Prop
  | int (i : Int) : ItH H (.inl (.inl i)) (.int i)
  | str (x : Str) : PyData.strOk x = true → ItH H (.inl (.inr x)) (.str x)
  | one {ns : List Int} {b : Addr} : H b = some (.tup (ns.map V.int)) → ItH H (.inr ns) (.ref b)
theorem ItH.keep {H H' : Hp} (k : TKeep H H') {i : Item} {v : V} (h : ItH H i v) : ItH H' i v := by
  cases h with
  | int i => exact .int i
  | str x hx => exact .str x hx
  | one h => exact .one (k _ _ h)
theorem ItH.itv {K : PySem.W.Frag} {H : Hp} {i : Item} {v : V} (h : ItH H i v) : ItV K H i v := by
  cases h with
  | int i => exact .int i
  | str x hx => exact .str x hx
  | one h => exact .one (SqT.of h)
/-- a key: a tuple of such parts -/
def KyH (H : Hp) (ks : List Item) (a : Addr) : Prop := ∃ vs : List V, H a = some (.tup vs) ∧ Paired (ItH H) ks vs
theorem KyH.keep {H H' : Hp} (k : TKeep H H') {ks : List Item} {a : Addr} (h : KyH H ks a) : KyH H' ks a := by
  obtain ⟨vs, h1, h2⟩ := h
  exact ⟨vs, k _ _ h1, Paired.mapP h2 fun _ _ => ItH.keep k⟩
theorem KyH.key {K : PySem.W.Frag} {H : Hp} {ks : List Item} {a : Addr} (h : KyH H ks a) : KeyAt K H ks a := by
  obtain ⟨vs, h1, h2⟩ := h
  exact ⟨vs, SqT.of h1, Paired.mapP h2 fun _ _ => ItH.itv⟩
theorem ndAll_len : ∀ ds : List PyData, ds.length ≤ ndAll ds
  | [] => Nat.zero_le _
  | d :: ds => by
    have := nd_pos d
    have := ndAll_len ds
    simp only [List.length_cons, ndAll]
    omega
theorem snoc_cases {α : Type} (l : List α) : l = [] ∨ ∃ s a, l = s ++ [a] := by
  rcases List.eq_nil_or_concat l with h | ⟨s, a, h⟩
  · exact .inl h
  · exact .inr ⟨s, a, by simpa using h⟩
section
variable {P : Program} {w : World} {K : PySem.W.Frag} {mg : Str → Option Value} {base : Heap}
def spSpell : Sp := fun vs H Q _ => ∃ (v : V) (d : PyData), vs = [v] ∧ Td H v d ∧ txt d = true ∧ nd d ≤ 200 ∧ ∀ (t : Addr) (H' : Hp), H t = none → Same H H' → KyH H' (spell d) t → Q (.ref t) H'
theorem ok_spelled (T : Txt K mg) : FnOk P w K mg base CX0 1 T.f_spelled T.d_spelled p_spelled spSpell := by
  refine T.F_spelled.ok sc_spelled (fun vs H Q E h => ?_) (fun cdv A outer s H vs Q E hr h => ?_)
  · obtain ⟨v, d, rfl, _⟩ := h
    rfl
  · obtain ⟨v, d, rfl, hd, ht, hn, k⟩ := h
    refine ⟨_, (pss_cons (ps_set (i := 1) sc_spelled.nd rfl (Or.inl rfl) (pe_lst pa_nil))
      (pss_cons (ps_set (i := 2) sc_spelled.nd rfl (Or.inl rfl) (pe_lst (pa_cons (pv 0) pa_nil)))
      (pss_cons (ps_while PassesOwn.never (pt_truth (pv 2) (by intro _; rfl)) (pss_cons (ps_set (i := 3) sc_spelled.nd rfl (Or.inl rfl) (pe_bm0 PySem.F.plainAttrs_list PySem.F.slot_list_pop PySem.F.type_list_pop mt_pop (pv 2)))
      (pss_one (ps_if (pt_val (pe_callB call_isi (by rfl) T.z_isinstance (by decide +kernel) (pa_cons (pv 3) (pa_cons (pe_bltn (v := V.ty "tuple") (by rfl) T.z_tuple (by decide +kernel) rfl) pa_nil)))) (pss_cons (ps_expr (pe_bm PySem.F.plainAttrs_list PySem.F.slot_list_append PySem.F.type_list_append mt_append (pv 1) (pa_cons (pe_tup (pa_cons (pe_callB call_len_seq (by rfl) T.z_len PySem.boot_len (pa_cons (pv 3) pa_nil)) pa_nil)) pa_nil)))
      (pss_one (ps_expr (pe_bm PySem.F.plainAttrs_list PySem.F.slot_list_extend PySem.F.type_list_extend mt_extendT (pv 2) (pa_cons (pv 3) pa_nil))))) (pss_one (ps_expr (pe_bm PySem.F.plainAttrs_list PySem.F.slot_list_append PySem.F.type_list_append mt_append (pv 1) (pa_cons (pv 3) pa_nil))))))))
      (pss_one (ps_ret (pe_callTy call_tuple_of (by rfl) T.z_tuple (by decide +kernel) (pa_cons (pv 1) pa_nil))))))), ?_⟩
    refine ⟨Nat.zero_le _, fun l1 h1 => ?_⟩
    have S1 : Same H (upd H l1 (.lst [])) := Same.new h1
    refine ⟨_, rfl, (by show 1 ≤ sizeLine; decide), fun l2 h2 => ?_⟩
    have n12 : l1 ≠ l2 := fun e => by rw [← e, upd_same] at h2; cases h2
    have S2 := S1.trans (Same.new (o := .lst [v]) h2)
    have g2 : H l2 = none := by rw [upd_ne n12.symm] at h2; exact h2
    refine ⟨fun n σ H' => ∃ (ks : List Item) (vs ws : List V) (st : List PyData) (p : Option V), n = ndAll st ∧ σ = [some v, some (.ref l1), some (.ref l2), p] ∧ Same H H' ∧ H' l1 = some (.lst vs) ∧ H' l2 = some (.lst ws) ∧ Paired (ItH H') ks vs ∧ TdAll H' ws st ∧
      txtAll st = true ∧ ks ++ spellR st = spell d ∧ ks.length + ndAll st = nd d,
      ⟨_, [], [], [v], [d], none, rfl, rfl, S2, by rw [upd_ne n12, upd_same], upd_same, .nil, .cons (hd.keep (sameTk S2)) .nil, by simp [txtAll, ht], by simp [spellR], by simp [ndAll]⟩, ?_⟩
    rintro n σ H' ⟨ks, vs, ws, st, p, rfl, rfl, SH, hl1, hl2, hks, hst, htx, hsp, hcnt⟩
    have hlk := Paired.length hks
    have hls := ndAll_len st
    have hlw := hst.length
    rcases snoc_cases st with rfl | ⟨st', d', rfl⟩
    · cases hst
      refine ⟨_, rfl, false, .inl ⟨[], SqL.of hl2, rfl⟩, ?_⟩
      refine iteF ?_
      -- return tuple(signs)
      refine ⟨_, rfl, l1, _, rfl, .inl ⟨SqL.of hl1, fun t hnt => ?_⟩⟩
      have St : Same H' (upd H' t (.tup vs)) := Same.new hnt
      refine k t _ ?_ (SH.trans St) ⟨vs, upd_same, ?_⟩
      · cases z : H t with
        | none => rfl
        | some o => rw [SH _ _ z] at hnt; cases hnt
      · rw [← hsp, spellR, List.append_nil]
        exact Paired.mapP hks fun _ _ => ItH.keep (sameTk St)
    · obtain ⟨ws', v', rfl, hws, hv'⟩ := hst.snoc
      have htx' : txtAll st' = true ∧ txt d' = true := by
        rw [txtAll_app] at htx
        simpa [txtAll] using htx
      have hnd : ndAll (st' ++ [d']) = ndAll st' + nd d' := by rw [ndAll_app]; simp [ndAll]
      have hsr : spellR (st' ++ [d']) = spell d' ++ spellR st' := by rw [spellR_app]; simp [spellR]
      have hp' := nd_pos d'
      refine ⟨_, rfl, true, .inl ⟨_, SqL.of hl2, by simp⟩, ?_⟩
      refine iteT ?_
      refine ⟨_, fun _ _ h => h, ?_⟩
      refine ⟨_, rfl, .inl ⟨rfl, _, SqL.of hl2⟩, l2, _, v', rfl, rfl, hl2, by simp, ?_⟩
      rw [List.dropLast_concat]
      have K2 : TKeep H' (upd H' l2 (.lst ws')) := TKeep.upd hl2
      have SH2 : Same H (upd H' l2 (.lst ws')) := fun b o e => by rw [upd_ne (fun z => by rw [z, g2] at e; cases e)]; exact SH _ _ e
      have hl1' : upd H' l2 (.lst ws') l1 = some (.lst vs) := by rw [upd_ne n12]; exact hl1
      have hws2 := hws.keep K2
      have hv2 := hv'.keep K2
      have hks2 := Paired.mapP hks fun _ _ => ItH.keep K2
      -- a part that is no tuple
      have leaf : ∀ (it : Item) (t : Value), spell d' = [it] → nd d' = 1 → ItH (upd H' l2 (.lst ws')) it v' → ∃ m', m' < ndAll (st' ++ [d']) ∧ ∃ (ks : List Item) (vs_1 ws : List V) (st : List PyData) (p : Option V), m' = ndAll st ∧ [some v, some (V.ref l1), some (V.ref l2), some v'] = [some v, some (.ref l1), some (.ref l2), p] ∧
          Same H (upd (upd H' l2 (.lst ws')) l1 (.lst (vs ++ [v']))) ∧ upd (upd H' l2 (.lst ws')) l1 (.lst (vs ++ [v'])) l1 = some (.lst vs_1) ∧ upd (upd H' l2 (.lst ws')) l1 (.lst (vs ++ [v'])) l2 = some (.lst ws) ∧ Paired (ItH (upd (upd H' l2 (.lst ws')) l1 (.lst (vs ++ [v'])))) ks vs_1 ∧
          TdAll (upd (upd H' l2 (.lst ws')) l1 (.lst (vs ++ [v']))) ws st ∧ txtAll st = true ∧ ks ++ spellR st = spell d ∧ ks.length + ndAll st = nd d := fun it t e1 e2 e3 => by
        have K3 : TKeep (upd H' l2 (.lst ws')) (upd (upd H' l2 (.lst ws')) l1 (.lst (vs ++ [v']))) := TKeep.upd hl1'
        refine ⟨ndAll st', by omega, ks ++ [it], vs ++ [v'], ws', st', _, rfl, rfl, fun b o e => ?_, upd_same, by rw [upd_ne n12.symm, upd_same], ?_, hws2.keep K3, htx'.1, ?_, ?_⟩
        · rw [upd_ne (fun z => by rw [z, h1] at e; cases e)]; exact SH2 _ _ e
        · exact (Paired.mapP hks2 fun _ _ => ItH.keep K3).snoc (e3.keep K3)
        · rw [← hsp, hsr, e1, List.append_assoc]
        · rw [List.length_append, List.length_singleton]; omega
      cases hv2 with
      | non => simp [txt] at htx'
      | int i =>
        refine ⟨_, rfl, _, _, _, _, false, rfl, .ty "tuple", .base (.int i), kit_ty (by decide +kernel), _, rfl, iteF ?_⟩
        refine ⟨_, rfl, .inl ⟨rfl, _, SqL.of hl1'⟩, _, rfl, l1, _, _, rfl, rfl, hl1', small1000 (by omega), ?_⟩
        exact leaf (.inl (.inl i)) .none rfl rfl (.int i)
      | str x hx =>
        refine ⟨_, rfl, _, _, _, _, false, rfl, .ty "tuple", .base (.str x), kit_ty (by decide +kernel), _, rfl, iteF ?_⟩
        refine ⟨_, rfl, .inl ⟨rfl, _, SqL.of hl1'⟩, _, rfl, l1, _, _, rfl, rfl, hl1', small1000 (by omega), ?_⟩
        exact leaf (.inl (.inr x)) .none rfl rfl (.str x hx)
      | @tup a us ds ha hus =>
        have hlu := hus.length
        have e1 : nd (.tuple ds) = ndAll ds + 1 := by simp [nd]
        have e2 : spell (.tuple ds) = .inr [(ds.length : Int)] :: spellR ds := by simp [spell]
        have hld := ndAll_len ds
        have hlw' := hws.length
        have hls' := ndAll_len st'
        refine ⟨_, rfl, _, _, _, _, true, rfl, .ty "tuple", .base (.tup ha), kit_ty (by decide +kernel), _, rfl, iteT ?_⟩
        refine ⟨_, rfl, .inl ⟨rfl, _, SqL.of hl1'⟩, _, rfl, a, us, rfl, .inr (SqT.of ha), (by show 1 ≤ sizeLine; decide), fun q hq => ?_⟩
        have Sq : Same (upd H' l2 (.lst ws')) (upd (upd H' l2 (.lst ws')) q (.tup [.int us.length])) := Same.new hq
        have nq1 : l1 ≠ q := fun z => by rw [← z, hl1'] at hq; cases hq
        have nq2 : l2 ≠ q := fun z => by rw [← z, upd_same] at hq; cases hq
        refine ⟨l1, _, _, rfl, rfl, Sq _ _ hl1', small1000 (by omega), ?_⟩
        have K4 : TKeep (upd (upd H' l2 (.lst ws')) q (.tup [.int us.length])) (upd (upd (upd H' l2 (.lst ws')) q (.tup [.int us.length])) l1 (.lst (vs ++ [.ref q]))) := TKeep.upd (Sq _ _ hl1')
        have h24 : (upd (upd (upd H' l2 (.lst ws')) q (.tup [.int us.length])) l1 (.lst (vs ++ [.ref q]))) l2 = some (.lst ws') := by rw [upd_ne n12.symm, upd_ne nq2, upd_same]
        have ha4 := K4 _ _ (Sq _ _ ha)
        have hus4 := (hus.keep (sameTk Sq)).keep K4
        have hws4 := (hws2.keep (sameTk Sq)).keep K4
        have hq4 : ItH (upd (upd (upd H' l2 (.lst ws')) q (.tup [.int us.length])) l1 (.lst (vs ++ [.ref q]))) (.inr [(ds.length : Int)]) (.ref q) := .one (by rw [upd_ne nq1.symm, upd_same, hlu]; rfl)
        have hks4 := (Paired.mapP (Paired.mapP hks2 fun _ _ => ItH.keep (sameTk Sq)) fun _ _ => ItH.keep K4).snoc hq4
        have SH4 : Same H (upd (upd (upd H' l2 (.lst ws')) q (.tup [.int us.length])) l1 (.lst (vs ++ [.ref q]))) := fun b o e => by
          rw [upd_ne (fun z => by rw [z, h1] at e; cases e)]; exact Sq _ _ (SH2 _ _ e)
        have h14 : (upd (upd (upd H' l2 (.lst ws')) q (.tup [.int us.length])) l1 (.lst (vs ++ [.ref q]))) l1 = some (.lst (vs ++ [.ref q])) := upd_same
        generalize (upd (upd (upd H' l2 (.lst ws')) q (.tup [.int us.length])) l1 (.lst (vs ++ [.ref q]))) = H4 at *
        refine ⟨_, rfl, .inl ⟨rfl, _, SqL.of h24⟩, _, rfl, l2, a, _, _, rfl, rfl, h24, ha4, by omega, ?_⟩
        have K5 : TKeep H4 (upd H4 l2 (.lst (ws' ++ us))) := TKeep.upd h24
        refine ⟨ndAll (st' ++ ds), by rw [hnd, ndAll_app, e1]; omega, ks ++ [.inr [(ds.length : Int)]], vs ++ [.ref q], ws' ++ us, st' ++ ds, _, rfl, rfl, fun b o e => ?_, by rw [upd_ne n12]; exact h14, upd_same, Paired.mapP hks4 fun _ _ => ItH.keep K5, (hws4.app hus4).keep K5, ?_, ?_, ?_⟩
        · rw [upd_ne (fun z => by rw [z, g2] at e; cases e)]; exact SH4 _ _ e
        · rw [txtAll_app, htx'.1]
          simpa [txt] using htx'.2
        · rw [← hsp, hsr, e2, spellR_app]; simp
        · rw [List.length_append, List.length_singleton, ndAll_app]; omega
end

theorem paired_of_ix {α β : Type} {F : α → β → Prop} : ∀ {l1 : List α} {l2 : List β}, l1.length = l2.length → (∀ (j : Nat) (a : α) (b : β), l1[j]? = some a → l2[j]? = some b → F a b) → Paired F l1 l2
  | [], [], _, _ => .nil
  | [], _ :: _, h, _ => by simp at h
  | _ :: _, [], h, _ => by simp at h
  | _ :: _, _ :: _, h, f => .cons (f 0 _ _ rfl rfl) (paired_of_ix (Nat.succ.inj h) fun j a b x y => f (j + 1) a b x y)
theorem paired_app {α β : Type} {F : α → β → Prop} : ∀ {l1 m1 : List α} {l2 m2 : List β}, Paired F l1 l2 → Paired F m1 m2 → Paired F (l1 ++ m1) (l2 ++ m2)
  | _, _, _, _, .nil, y => y
  | _, _, _, _, .cons h t, y => .cons h (paired_app t y)
theorem paired_snocR {α β : Type} {F : α → β → Prop} : ∀ {l1 : List α} {a : α} {l2 : List β}, Paired F (l1 ++ [a]) l2 → ∃ m b, l2 = m ++ [b] ∧ Paired F l1 m ∧ F a b
  | [], _, _, .cons h .nil => ⟨[], _, rfl, .nil, h⟩
  | _ :: _, _, _, .cons h t => by
    obtain ⟨m, b, e, x, y⟩ := paired_snocR t
    exact ⟨_ :: m, b, by rw [e]; rfl, .cons h x, y⟩
theorem eqvAll_zip : ∀ ds es : List PyData, ds.length = es.length → PyData.eqvAll ds es = (ds.zip es).all fun p => PyData.eqv p.1 p.2
  | [], [], _ => rfl
  | [], _ :: _, h => by simp at h
  | _ :: _, [], h => by simp at h
  | d :: ds, e :: es, h => by simp [PyData.eqvAll, eqvAll_zip ds es (Nat.succ.inj h)]
theorem eqvAll_len : ∀ ds es : List PyData, ds.length ≠ es.length → PyData.eqvAll ds es = false
  | [], [], h => absurd rfl h
  | [], _ :: _, _ => rfl
  | _ :: _, [], _ => rfl
  | d :: ds, e :: es, h => by simp [PyData.eqvAll, eqvAll_len ds es (fun z => h (congrArg (· + 1) z))]
theorem depth_mem {d : PyData} : ∀ {ds : List PyData}, d ∈ ds → d.depth ≤ PyData.depthAll ds
  | e :: ds, h => by
    simp only [PyData.depthAll]
    rcases List.mem_cons.mp h with rfl | h
    · exact Nat.le_max_left ..
    · exact Nat.le_trans (depth_mem h) (Nat.le_max_right ..)
theorem zip_nd : ∀ ds es : List PyData, ((ds.zip es).map fun p => nd p.1).sum ≤ ndAll ds
  | [], _ => by simp
  | _ :: _, [] => by simp
  | d :: ds, e :: es => by
    have := zip_nd ds es
    simp only [List.zip_cons_cons, List.map_cons, List.sum_cons, ndAll]
    omega
theorem sum_len (ps : List (PyData × PyData)) : ps.length ≤ (ps.map fun p => nd p.1).sum := by
  induction ps with
  | nil => simp
  | cons p ps ih =>
    have := nd_pos p.1
    simp only [List.length_cons, List.map_cons, List.sum_cons]
    omega
/-- a pair of the stack -/
def PrH (H : Hp) (p : PyData × PyData) (a : Addr) : Prop := ∃ x y : V, H a = some (.tup [x, y]) ∧ Td H x p.1 ∧ Td H y p.2
theorem PrH.keep {H H' : Hp} (k : TKeep H H') {p : PyData × PyData} {a : Addr} (h : PrH H p a) : PrH H' p a := by
  obtain ⟨x, y, h1, h2, h3⟩ := h
  exact ⟨x, y, k _ _ h1, h2.keep k, h3.keep k⟩
theorem tup_test (K : PySem.W.Frag) {H : Hp} {v : V} {d : PyData} (h : Td H v d) : (∃ a us ds, v = .ref a ∧ d = .tuple ds ∧ H a = some (.tup us) ∧ TdAll H us ds) ∨
    ((∃ t, TyX K H v t ∧ PySem.W.kitOne K t (.type "tuple") = some false) ∧ ∀ ds, d ≠ .tuple ds) := by
  cases h with
  | non => exact .inr ⟨⟨_, .base .non, kit_ty (by decide +kernel)⟩, fun ds z => by cases z⟩
  | int i => exact .inr ⟨⟨_, .base (.int i), kit_ty (by decide +kernel)⟩, fun ds z => by cases z⟩
  | str x _ => exact .inr ⟨⟨_, .base (.str x), kit_ty (by decide +kernel)⟩, fun ds z => by cases z⟩
  | tup ha hs => exact .inl ⟨_, _, _, rfl, rfl, ha, hs⟩
def spSame : Sp := fun vs H Q _ => ∃ (x y : V) (d e : PyData), vs = [x, y] ∧ Td H x d ∧ Td H y e ∧ d.depth ≤ 60 ∧ e.depth ≤ 60 ∧ nd d ≤ 200 ∧ ∀ H', Same H H' → Q (.bl (PyData.eqv d e)) H'
theorem iteNN {c A B : Prop} [Decidable c] (hc : ¬ c) (h : A) : if (!decide c) = true then A else B := by
  rw [decide_eq_false hc]
  exact iteT h
/-- the walk's state -/
def SmI (l : Addr) (d e : PyData) (H : Hp) (n : Nat) (H' : Hp) : Prop := ∃ (ps : List (PyData × PyData)) (as : List Addr), n = (ps.map fun p => nd p.1).sum ∧ Same H H' ∧ H' l = some (.lst (as.map V.ref)) ∧ Paired (PrH H') ps as ∧
  (∀ p ∈ ps, p.1.depth ≤ 60 ∧ p.2.depth ≤ 60) ∧ PyData.eqv d e = (ps.all fun p => PyData.eqv p.1 p.2) ∧ n ≤ 200
section
variable {P : Program} {w : World} {K : PySem.W.Frag} {mg : Str → Option Value} {base : Heap}
theorem ok_same (T : Txt K mg) : FnOk P w K mg base CX0 1 T.f_is_same T.d_is_same p_is_same spSame := by
  refine T.F_is_same.ok sc_is_same (fun vs H Q E h => ?_) (fun cdv A outer s H vs Q E hr h => ?_)
  · obtain ⟨x, y, d, e, rfl, _⟩ := h
    rfl
  · obtain ⟨x, y, d, e, rfl, hx, hy, dd, de, hn, k⟩ := h
    refine ⟨_, (pss_cons (ps_set (i := 2) sc_is_same.nd rfl (Or.inl rfl) (pe_lst (pa_cons (pe_tup (pa_cons (pv 0) (pa_cons (pv 1) pa_nil))) pa_nil)))
      (pss_cons (ps_while PassesOwn.never (pt_truth (pv 2) (by intro _; rfl)) (pss_cons (ps_asg (pe_bm0 PySem.F.plainAttrs_list PySem.F.slot_list_pop PySem.F.type_list_pop mt_pop (pv 2)) (pg_tup rfl (pgs_cons (pg_name (i := 3) sc_is_same.nd rfl (Or.inl rfl)) (pgs_cons (pg_name (i := 4) sc_is_same.nd rfl (Or.inl rfl)) pgs_nil))))
      (pss_one (ps_if (PW.pt (pw_and (pt_val (pe_callB call_isi (by rfl) T.z_isinstance (by decide +kernel) (pa_cons (pv 3) (pa_cons (pe_bltn (v := V.ty "tuple") (by rfl) T.z_tuple (by decide +kernel) rfl) pa_nil)))) (pw_and1 (pt_val (pe_callB call_isi (by rfl) T.z_isinstance (by decide +kernel) (pa_cons (pv 4) (pa_cons (pe_bltn (v := V.ty "tuple") (by rfl) T.z_tuple (by decide +kernel) rfl) pa_nil))))))) (pss_cons (ps_if (pt_cmpR op_ne (pe_callB call_len_seq (by rfl) T.z_len PySem.boot_len (pa_cons (pv 3) pa_nil)) (pe_callB call_len_seq (by rfl) T.z_len PySem.boot_len (pa_cons (pv 4) pa_nil)) (nomark _)) (pss_one (ps_ret pe_bl)) pss_nil)
      (pss_one (ps_expr (pe_bm PySem.F.plainAttrs_list PySem.F.slot_list_extend PySem.F.type_list_extend mt_extend (pv 2) (pa_cons (pe_listZip rfl (pv 3) (pv 4) rfl T.z_list rfl T.z_zip) pa_nil))))) (pss_one (ps_if (pt_cmpR (op_neD (hr.units)) (pv 3) (pv 4) (nomark _)) (pss_one (ps_ret pe_bl)) pss_nil))))))
      (pss_one (ps_ret pe_bl)))), ?_⟩
    refine ⟨_, rfl, _, rfl, (by show 2 ≤ sizeLine; decide), fun q hq => ⟨(by show 1 ≤ sizeLine; decide), fun l hl => ?_⟩⟩
    have Sq : Same H (upd H q (.tup [x, y])) := Same.new hq
    have S0 : Same H (upd (upd H q (.tup [x, y])) l (.lst [.ref q])) := Sq.trans (Same.new hl)
    have gl : H l = none := by
      cases z : H l with
      | none => rfl
      | some o => rw [Sq _ _ z] at hl; cases hl
    have nlq : q ≠ l := fun z => by rw [← z, upd_same] at hl; cases hl
    refine ⟨fun n σ H' => ∃ p1 p2 : Option V, σ = [some x, some y, some (.ref l), p1, p2] ∧ SmI l d e H n H',
      ⟨_, none, none, rfl, [(d, e)], [q], rfl, S0, upd_same, .cons ⟨x, y, by rw [upd_ne nlq, upd_same], hx.keep (sameTk S0), hy.keep (sameTk S0)⟩ .nil, fun p hp => by rw [List.mem_singleton.mp hp]; exact ⟨dd, de⟩, by simp, by simpa using hn⟩, ?_⟩
    rintro n σ H' ⟨p1, p2, rfl, ps, as, rfl, SH, hlA, hps, hdep, heq, hle⟩
    have hlen := sum_len ps
    have hal := Paired.length hps
    rcases snoc_cases ps with rfl | ⟨ps', p, rfl⟩
    · cases hps
      refine ⟨_, rfl, false, .inl ⟨[], SqL.of hlA, rfl⟩, ?_⟩
      refine iteF ?_
      have h2 := k H' SH
      rw [heq] at h2
      exact h2
    · obtain ⟨as', a, rfl, hps', x', y', ha, hx', hy'⟩ := paired_snocR hps
      refine ⟨_, rfl, true, .inl ⟨_, SqL.of hlA, by simp⟩, ?_⟩
      refine iteT ?_
      refine ⟨_, fun _ _ h => h, ?_⟩
      refine ⟨_, rfl, .inl ⟨rfl, _, SqL.of hlA⟩, l, _, .ref a, rfl, rfl, hlA, by simp, ?_⟩
      have hdl : ((as' ++ [a]).map V.ref).dropLast = as'.map V.ref := by simp
      rw [hdl]
      have K2 : TKeep H' (upd H' l (.lst (as'.map V.ref))) := TKeep.upd hlA
      have SH2 : Same H (upd H' l (.lst (as'.map V.ref))) := fun b o e => by rw [upd_ne (fun z => by rw [z, gl] at e; cases e)]; exact SH _ _ e
      have hl2 : (upd H' l (.lst (as'.map V.ref))) l = some (.lst (as'.map V.ref)) := upd_same
      have ha2 := K2 _ _ ha
      have hx2 := hx'.keep K2
      have hy2 := hy'.keep K2
      have hps2 := Paired.mapP hps' fun _ _ => PrH.keep K2
      generalize (upd H' l (.lst (as'.map V.ref))) = H2 at *
      refine ⟨a, _, rfl, SqT.of ha2, rfl, _, _, rfl, _, _, rfl, rfl, ?_⟩
      have hsum : ((ps' ++ [p]).map fun p => nd p.1).sum = (ps'.map fun p => nd p.1).sum + nd p.1 := by simp
      have hall : ((ps' ++ [p]).all fun p => PyData.eqv p.1 p.2) = ((ps'.all fun p => PyData.eqv p.1 p.2) && PyData.eqv p.1 p.2) := by simp
      rw [hall] at heq
      rw [hsum] at hle ⊢
      have hpos := nd_pos p.1
      have hdp := hdep p (by simp)
      have hdep' : ∀ p ∈ ps', p.1.depth ≤ 60 ∧ p.2.depth ≤ 60 := fun q hq => hdep q (List.mem_append_left _ hq)
      -- the loop goes on with fewer pairs
      have on : ∀ (H3 : Hp) (ps3 : List (PyData × PyData)) (as3 : List Addr), Same H H3 → H3 l = some (.lst (as3.map V.ref)) → Paired (PrH H3) ps3 as3 → (∀ p ∈ ps3, p.1.depth ≤ 60 ∧ p.2.depth ≤ 60) → PyData.eqv d e = (ps3.all fun p => PyData.eqv p.1 p.2) →
          (ps3.map fun p => nd p.1).sum < (ps'.map fun p => nd p.1).sum + nd p.1 → ∃ m', m' < (ps'.map fun p => nd p.1).sum + nd p.1 ∧ ∃ p1 p2 : Option V, [some x, some y, some (V.ref l), some x', some y'] = [some x, some y, some (.ref l), p1, p2] ∧ SmI l d e H m' H3 :=
        fun H3 ps3 as3 a1 a2 a3 a4 a5 a6 => ⟨_, a6, _, _, rfl, ps3, as3, rfl, a1, a2, a3, a4, a5, by omega⟩
      -- left != right
      have neq : ∀ (G : Bool → Hp → Prop), (PyData.eqv p.1 p.2 = false → G true H2) → (PyData.eqv p.1 p.2 = true → G false H2) → rNeD K x' y' H2 fun v H => ∃ b, v = .bl b ∧ G b H := fun G g1 g2 =>
        ⟨p.1, p.2, hx2.dp, hy2.dp, hx2.shaped (by omega), hy2.shaped (by omega), _, rfl, by
          cases z : PyData.eqv p.1 p.2 with
          | true => exact g2 z
          | false => exact g1 z⟩
      have fls : PyData.eqv p.1 p.2 = false → Q (.bl false) H2 := fun z => by
        have h2 := k H2 SH2
        rw [heq, z, Bool.and_false] at h2
        exact h2
      have tru : PyData.eqv p.1 p.2 = true → ∃ m', m' < (ps'.map fun p => nd p.1).sum + nd p.1 ∧ ∃ p1 p2 : Option V, [some x, some y, some (V.ref l), some x', some y'] = [some x, some y, some (.ref l), p1, p2] ∧ SmI l d e H m' H2 := fun z =>
        on H2 ps' as' SH2 hl2 hps2 hdep' (by rw [heq, z, Bool.and_true]) (by omega)
      rcases tup_test K hx2 with ⟨ax, ux, dsx, ex, edx, hax, hux⟩ | ⟨⟨tx, tyx, kx⟩, nx⟩
      · subst ex
        rcases tup_test K hy2 with ⟨ay, uy, dsy, ey, edy, hay, huy⟩ | ⟨⟨ty, tyy, ky⟩, ny⟩
        · subst ey
          refine ⟨_, rfl, _, _, _, _, true, rfl, .ty "tuple", .base (.tup hax), kit_ty (by decide +kernel), _, rfl, iteT ?_⟩
          refine ⟨_, rfl, _, _, _, _, true, rfl, .ty "tuple", .base (.tup hay), kit_ty (by decide +kernel), _, rfl, iteT ?_⟩
          have lx := hux.length
          have ly := huy.length
          have e1 : nd p.1 = ndAll dsx + 1 := by rw [edx]; simp [nd]
          have lz := ndAll_len dsx
          by_cases hlen : ux.length = uy.length
          · refine ⟨_, rfl, ax, ux, rfl, .inr (SqT.of hax), _, rfl, ay, uy, rfl, .inr (SqT.of hay), rfl, _, rfl, iteNS (by rw [hlen]) ?_⟩
            refine ⟨_, rfl, .inl ⟨rfl, _, SqL.of hl2⟩, _, rfl, _, rfl, ax, ay, ux, uy, rfl, rfl, SqT.of hax, SqT.of hay, hlen, by omega, fun S nas H3 hS S3 hnl hS3 hnt => ?_⟩
            have hps3 := Paired.length hps'
            have s5 := sum_len ps'
            refine ⟨l, S, _, _, rfl, rfl, S3 _ _ hl2, hS3, ?_, ?_⟩
            · rw [List.length_map, List.length_map]
              exact Nat.le_trans (by omega : _ ≤ 1000) (by decide)
            · have K4 : TKeep H3 (upd H3 l (.lst (as'.map V.ref ++ nas.map V.ref))) := TKeep.upd (S3 _ _ hl2)
              have K3 := (sameTk S3).trans K4
              have hzn := zip_nd dsx dsy
              refine on _ (ps' ++ dsx.zip dsy) (as' ++ nas) (fun b o z => ?_) (by rw [upd_same, List.map_append]) (paired_app (Paired.mapP hps2 fun _ _ => PrH.keep K3) (paired_of_ix ?_ fun j q a g1 g2 => ?_)) (fun q hq => ?_) ?_ ?_
              · rw [upd_ne (fun y => by rw [y, gl] at z; cases z)]
                exact S3 _ _ (SH2 _ _ z)
              · rw [List.length_zip]; omega
              · obtain ⟨q1, q2⟩ := q
                rw [List.getElem?_zip_eq_some] at g1
                have j1 : j < ux.length := by rw [lx]; exact (List.getElem?_eq_some_iff.mp g1.1).1
                have j2 : j < uy.length := by omega
                obtain ⟨d1, f1, f2⟩ := hux.get (List.getElem?_eq_getElem j1)
                obtain ⟨d2, f3, f4⟩ := huy.get (List.getElem?_eq_getElem j2)
                rw [g1.1] at f1
                rw [g1.2] at f3
                cases f1
                cases f3
                exact ⟨ux[j], uy[j], K4 _ _ (hnt j a _ _ g2 (List.getElem?_eq_getElem j1) (List.getElem?_eq_getElem j2)), f2.keep K3, f4.keep K3⟩
              · rcases List.mem_append.mp hq with hq | hq
                · exact hdep' q hq
                · have m1 := depth_mem (List.of_mem_zip hq).1
                  have m2 := depth_mem (List.of_mem_zip hq).2
                  rw [edx, edy] at hdp
                  simp only [PyData.depth] at hdp
                  omega
              · rw [heq, edx, edy, List.all_append, PyData.eqv, eqvAll_zip _ _ (by omega)]
              · rw [List.map_append, List.sum_append]
                omega
          · refine ⟨_, rfl, ax, ux, rfl, .inr (SqT.of hax), _, rfl, ay, uy, rfl, .inr (SqT.of hay), rfl, _, rfl, iteNN (fun z => hlen (by have := V.int.inj z; omega)) ?_⟩
            refine fls ?_
            rw [edx, edy, PyData.eqv]
            exact eqvAll_len _ _ (by omega)
        · refine ⟨_, rfl, _, _, _, _, true, rfl, .ty "tuple", .base (.tup hax), kit_ty (by decide +kernel), _, rfl, iteT ?_⟩
          refine ⟨_, rfl, _, _, _, _, false, rfl, .ty "tuple", tyy, ky, _, rfl, iteF ?_⟩
          refine ⟨_, rfl, _, rfl, neq _ (fun z => ?_) (fun z => ?_)⟩
          · exact iteT (fls z)
          · exact iteF (tru z)
      · refine ⟨_, rfl, _, _, _, _, false, rfl, .ty "tuple", tyx, kx, _, rfl, iteF ?_⟩
        refine iteF ?_
        refine ⟨_, rfl, _, rfl, neq _ (fun z => ?_) (fun z => ?_)⟩
        · exact iteT (fls z)
        · exact iteF (tru z)
end

/-! ### the sealer's objects -/
/-- the rows of the marks: the texts' signs, their numbers from n + 1 on -/
def Num (H : Hp) : Nat → List PyData → List (List Item × Addr × Int) → Prop
  | _, [], [] => True
  | n, d :: ds, q :: kvs => q.1 = spell d ∧ q.2.2 = (n : Int) + 1 ∧ KyH H q.1 q.2.1 ∧ Num H (n + 1) ds kvs
  | _, _, _ => False
theorem Num.length {H : Hp} : ∀ {n : Nat} {ds : List PyData} {kvs : List (List Item × Addr × Int)}, Num H n ds kvs → ds.length = kvs.length
  | _, [], [], _ => rfl
  | _, [], _ :: _, h => h.elim
  | _, _ :: _, [], h => h.elim
  | _, _ :: _, _ :: _, h => congrArg (· + 1) (Num.length h.2.2.2)
theorem Num.keep {H H' : Hp} (k : TKeep H H') : ∀ {n : Nat} {ds : List PyData} {kvs : List (List Item × Addr × Int)}, Num H n ds kvs → Num H' n ds kvs
  | _, [], [], _ => True.intro
  | _, [], _ :: _, h => h.elim
  | _, _ :: _, [], h => h.elim
  | _, _ :: _, _ :: _, h => ⟨h.1, h.2.1, h.2.2.1.keep k, Num.keep k h.2.2.2⟩
theorem Num.mem {H : Hp} : ∀ {n : Nat} {ds : List PyData} {kvs : List (List Item × Addr × Int)}, Num H n ds kvs → ∀ q ∈ kvs, KyH H q.1 q.2.1
  | _, [], [], _, q, hq => by cases hq
  | _, [], _ :: _, h, _, _ => h.elim
  | _, _ :: _, [], h, _, _ => h.elim
  | _, _ :: _, _ :: _, h, q, hq => by
    rcases List.mem_cons.mp hq with rfl | hq
    · exact h.2.2.1
    · exact Num.mem h.2.2.2 q hq
theorem Num.snoc {H : Hp} {d : PyData} {a : Addr} (hk : KyH H (spell d) a) : ∀ {n : Nat} {ds : List PyData} {kvs : List (List Item × Addr × Int)}, Num H n ds kvs → Num H n (ds ++ [d]) (kvs ++ [(spell d, a, ((n + ds.length : Nat) : Int) + 1)])
  | n, [], [], _ => ⟨rfl, rfl, hk, True.intro⟩
  | _, [], _ :: _, h => h.elim
  | _, _ :: _, [], h => h.elim
  | n, e :: ds, q :: kvs, h => by
    refine ⟨h.1, h.2.1, h.2.2.1, ?_⟩
    have := Num.snoc hk h.2.2.2
    rw [show n + 1 + ds.length = n + (e :: ds).length by simp only [List.length_cons]; omega] at this
    exact this
theorem spell_ne {d e : PyData} (hd : txt d = true) (he : txt e = true) (h : spell d = spell e) : d = e := (spell_inj d e [] [] hd he (by rw [h])).1
theorem txtAll_mem {d : PyData} : ∀ {ds : List PyData}, txtAll ds = true → d ∈ ds → txt d = true
  | e :: ds, h, hm => by
    have h' : txt e = true ∧ txtAll ds = true := by simpa [txtAll] using h
    rcases List.mem_cons.mp hm with rfl | hm
    · exact h'.1
    · exact txtAll_mem h'.2 hm
theorem Num.none {H : Hp} {d : PyData} (hd : txt d = true) : ∀ {n : Nat} {ds : List PyData} {kvs : List (List Item × Addr × Int)}, Num H n ds kvs → txtAll ds = true → d ∉ ds → atK kvs (spell d) = none
  | _, [], [], _, _, _ => rfl
  | _, [], _ :: _, h, _, _ => h.elim
  | _, _ :: _, [], h, _, _ => h.elim
  | _, e :: ds, q :: kvs, h, ht, hm => by
    have h' : txt e = true ∧ txtAll ds = true := by simpa [txtAll] using ht
    have ne : ¬ q.1 = spell d := fun z => hm (by rw [spell_ne hd h'.1 (by rw [← z, h.1])]; exact List.mem_cons_self)
    have := Num.none hd h.2.2.2 h'.2 (fun z => hm (List.mem_cons_of_mem _ z))
    simpa [atK, ne] using this
theorem Num.at {H : Hp} {d : PyData} (hd : txt d = true) : ∀ {n : Nat} {ds : List PyData} {kvs : List (List Item × Addr × Int)} {i : Nat}, Num H n ds kvs → txtAll ds = true → ds.Nodup → ds[i]? = some d → atK kvs (spell d) = some (((n + i : Nat) : Int) + 1)
  | _, [], [], _, _, _, _, h => by simp at h
  | _, [], _ :: _, _, h, _, _, _ => h.elim
  | _, _ :: _, [], _, h, _, _, _ => h.elim
  | n, e :: ds, q :: kvs, 0, h, ht, hn, hi => by
    cases hi
    simp [atK, h.1, h.2.1]
  | n, e :: ds, q :: kvs, i + 1, h, ht, hn, hi => by
    have h' : txt e = true ∧ txtAll ds = true := by simpa [txtAll] using ht
    have hn' := List.nodup_cons.mp hn
    have hi' : ds[i]? = some d := hi
    have ne : ¬ q.1 = spell d := fun z => hn'.1 (by rw [← spell_ne hd h'.1 (by rw [← z, h.1])]; exact List.mem_of_getElem? hi')
    have := Num.at hd h.2.2.2 h'.2 hn'.2 hi'
    rw [show n + 1 + i = n + (i + 1) by omega] at this
    simpa [atK, ne] using this
/-- a sealer at p that has marked ds -/
def SeA (P : Program) (w : World) (C : Addr) (H : Hp) (p md tl : Addr) (ds : List PyData) : Prop := ∃ (dx : Addr) (kvs : List (List Item × Addr × Int)) (vs : List V), H p = some (.ins C dx [("_marks", .ref md), ("_texts", .ref tl)]) ∧ H md = some (MkD P w md kvs) ∧ H tl = some (.lst vs) ∧
  TdAll H vs ds ∧ Num H 0 ds kvs ∧ txtAll ds = true ∧ ds.Nodup ∧ ∀ d ∈ ds, d.depth ≤ 60
theorem ins_mkd {P : Program} {w : World} {C dx d : Addr} {fs : List (Str × V)} {kvs : List (List Item × Addr × Int)} (h : HO.ins C dx fs = MkD P w d kvs) : False := by
  have h' : HO.ins C dx fs = HO.ext _ := h
  cases h'
theorem lst_mkd {P : Program} {w : World} {d : Addr} {vs : List V} {kvs : List (List Item × Addr × Int)} (h : HO.lst vs = MkD P w d kvs) : False := by
  have h' : HO.lst vs = HO.ext _ := h
  cases h'
theorem tup_mkd {P : Program} {w : World} {d : Addr} {vs : List V} {kvs : List (List Item × Addr × Int)} (h : HO.tup vs = MkD P w d kvs) : False := by
  have h' : HO.tup vs = HO.ext _ := h
  cases h'
/-- nothing of it is written -/
theorem SeA.keep {P : Program} {w : World} {C : Addr} {H H' : Hp} {p md tl : Addr} {ds : List PyData} (h : SeA P w C H p md tl ds) (k : TKeep H H') (hp : ∀ o, H p = some o → H' p = some o) (hm : ∀ o, H md = some o → H' md = some o) (ht : ∀ o, H tl = some o → H' tl = some o) : SeA P w C H' p md tl ds := by
  obtain ⟨dx, kvs, vs, h1, h2, h3, h4, h5, h6⟩ := h
  exact ⟨dx, kvs, vs, hp _ h1, hm _ h2, ht _ h3, h4.keep k, h5.keep k, h6⟩
theorem SeA.same {P : Program} {w : World} {C : Addr} {H H' : Hp} {p md tl : Addr} {ds : List PyData} (h : SeA P w C H p md tl ds) (k : Same H H') : SeA P w C H' p md tl ds := h.keep (sameTk k) (fun o e => k _ _ e) (fun o e => k _ _ e) fun o e => k _ _ e
/-- what knows answers -/
def kn (ds : List PyData) (d : PyData) (m : Int) : Bool := if 1 ≤ m then (match ds[(m - 1).toNat]? with | some e => PyData.eqv d e | none => false) else false
section
variable {P : Program} {w : World} {K : PySem.W.Frag} {mg : Str → Option Value} {base : Heap}
def spInitS (P : Program) (w : World) (C : Addr) : Sp := fun vs H Q _ => ∃ (p dx : Addr), vs = [.ref p] ∧ H p = some (.ins C dx []) ∧ ∀ (md tl : Addr) (H' : Hp), H md = none → H tl = none → (∀ b o, b ≠ p → H b = some o → H' b = some o) → SeA P w C H' p md tl [] → Q .non H'
theorem ok_init (T : Txt K mg) : FnOk P w K mg base CX0 1 T.f_Sealer___init__ T.d_Sealer___init__ p_Sealer___init__ (spInitS P w T.C_Sealer) := by
  refine T.F_Sealer___init__.ok sc_Sealer___init__ (fun vs H Q E h => ?_) (fun cdv A outer s H vs Q E hr h => ?_)
  · obtain ⟨p, dx, rfl, _⟩ := h
    rfl
  · obtain ⟨p, dx, rfl, hp, k⟩ := h
    refine ⟨_, (pss_cons (ps_fld (pv 0) pe_mkd0 rfl)
      (pss_one (ps_fld (pv 0) (pe_lst pa_nil) rfl))), ?_⟩
    intro md hm
    have npm : p ≠ md := fun z => by rw [← z, hp] at hm; cases hm
    refine ⟨_, rfl, p, T.C_Sealer, dx, _, rfl, by rw [upd_ne npm]; exact hp, T.cl_Sealer, T.na_Sealer__marks, (by show 0 < 1000; decide), ?_⟩
    refine ⟨Nat.zero_le _, fun tl ht => ?_⟩
    have npt : p ≠ tl := fun z => by rw [← z, upd_same] at ht; cases ht
    have nmt : md ≠ tl := fun z => by rw [← z, upd_ne npm.symm, upd_same] at ht; cases ht
    refine ⟨_, rfl, p, T.C_Sealer, dx, _, rfl, by rw [upd_ne npt, upd_same], T.cl_Sealer, T.na_Sealer__texts, (by show 1 < 1000; decide), ?_⟩
    have ht0 : H tl = none := by
      rw [upd_ne npt.symm, upd_ne nmt.symm] at ht
      exact ht
    refine k md tl _ hm ht0 (fun b o hb e => ?_) ⟨dx, [], [], upd_same, ?_, ?_, .nil, True.intro, rfl, List.nodup_nil, fun d hd => by cases hd⟩
    · rw [upd_ne hb, upd_ne (ne_of_none e ht0), upd_ne hb, upd_ne (ne_of_none e hm)]; exact e
    · rw [upd_ne npm.symm, upd_ne nmt, upd_ne npm.symm, upd_same]; rfl
    · rw [upd_ne npt.symm, upd_same]
def spKnows (P : Program) (w : World) (C : Addr) : Sp := fun vs H Q _ => ∃ (p md tl : Addr) (ds : List PyData) (v : V) (d : PyData) (m : Int), vs = [.ref p, v, .int m] ∧ SeA P w C H p md tl ds ∧ Td H v d ∧ d.depth ≤ 60 ∧ nd d ≤ 200 ∧ ∀ H', Same H H' → Q (.bl (kn ds d m)) H'
theorem ok_knows (T : Txt K mg) : FnOk P w K mg base CX0 2 T.f_Sealer_knows T.d_Sealer_knows p_Sealer_knows (spKnows P w T.C_Sealer) := by
  have G_is_same : FnOk P w K mg base CX0 1 T.f_is_same T.d_is_same p_is_same spSame := ok_same T
  refine T.F_Sealer_knows.ok sc_Sealer_knows (fun vs H Q E h => ?_) (fun cdv A outer s H vs Q E hr h => ?_)
  · obtain ⟨p, md, tl, ds, v, d, m, rfl, _⟩ := h
    rfl
  · obtain ⟨p, md, tl, ds, v, d, m, rfl, ⟨dx, kvs, us, hp, hm, ht, htd, hnum, htx, hnod, hdp⟩, hd, dd, dn, k⟩ := h
    refine ⟨_, (pss_cons (ps_if (pt_not (pt_chain op_le op_le pe_int (pv 2) (pe_callB call_len_seq (by rfl) T.z_len PySem.boot_len (pa_cons (pe_fld (pv 0) rfl) pa_nil)))) (pss_one (ps_ret pe_bl)) pss_nil)
      (pss_one (ps_ret (pe_call G_is_same (hr.mono (by decide)) rfl T.mg_is_same T.F_is_same.kp T.b_is_same .nil pass0 (pa_cons (pv 1) (pa_cons (pe_ix ix_list (pe_fld (pv 0) rfl) (pe_op op_sub (pv 2) pe_int) (fun _ _ => rfl)) pa_nil)))))), ?_⟩
    have hlen := htd.length
    have no : ¬ (1 ≤ m ∧ m ≤ (us.length : Int)) → Q (.bl false) H := fun z => by
      have e : kn ds d m = false := by
        unfold kn
        split
        · rw [List.getElem?_eq_none (by omega)]
        · rfl
      have := k H (Same.refl H)
      rwa [e] at this
    refine ⟨_, rfl, _, _, rfl, rfl, _, rfl, ite2 (fun a => ?_) (fun a => ?_)⟩
    · have a := of_decide_eq_true a
      refine ⟨_, rfl, p, T.C_Sealer, dx, _, _, rfl, hp, T.cl_Sealer, T.na_Sealer__texts, rfl, tl, us, rfl, .inl (SqL.of ht), _, _, rfl, rfl, _, rfl, ite2 (fun b => ?_) (fun b => ?_)⟩
      · exact no fun z => (by rw [decide_eq_true z.2] at b; exact absurd b (by decide))
      · have b : m ≤ (us.length : Int) := by
          cases e : decide (m ≤ (us.length : Int)) with
          | true => exact of_decide_eq_true e
          | false => rw [e] at b; exact absurd rfl b
        have hj : (m - 1).toNat < us.length := by omega
        obtain ⟨e, f1, f2⟩ := htd.get (List.getElem?_eq_getElem hj)
        refine ⟨_, rfl, _, rfl, p, T.C_Sealer, dx, _, _, rfl, hp, T.cl_Sealer, T.na_Sealer__texts, rfl, _, rfl, _, _, rfl, rfl, tl, us, m - 1, _, rfl, rfl, SqL.of ht, at_of (j := (m - 1).toNat) (by omega) (List.getElem?_eq_getElem hj), ?_⟩
        refine ⟨_, _, d, e, rfl, hd, f2, dd, hdp e (List.mem_of_getElem? f1), dn, fun H' S => ?_⟩
        have := k H' S
        unfold kn at this
        rw [if_pos a, f1] at this
        exact this
    · exact ⟨_, rfl, iteT (no fun z => a (decide_eq_true z.1))⟩
end

theorem tkUpdM {P : Program} {w : World} {H : Hp} {a : Addr} {o : HO} {kvs : List (List Item × Addr × Int)} (h : H a = some (MkD P w a kvs)) : TKeep H (upd H a o) := fun b vs e => by
  rw [upd_ne (fun z => by rw [z, h] at e; exact (tup_mkd (Option.some.inj e).symm).elim)]; exact e
theorem TdAll.snoc' {H : Hp} {vs : List V} {ds : List PyData} {v : V} {d : PyData} (h : TdAll H vs ds) (x : Td H v d) : TdAll H (vs ++ [v]) (ds ++ [d]) := h.app (.cons x .nil)
section
variable {P : Program} {w : World} {K : PySem.W.Frag} {mg : Str → Option Value} {base : Heap}
def spMark (P : Program) (w : World) (C : Addr) : Sp := fun vs H Q _ => ∃ (p md tl : Addr) (ds : List PyData) (v : V) (d : PyData), vs = [.ref p, v] ∧ SeA P w C H p md tl ds ∧ Td H v d ∧ txt d = true ∧ d.depth ≤ 60 ∧ nd d ≤ 200 ∧ ds.length ≤ 100 ∧
  (∀ (i : Nat) H', ds[i]? = some d → Same H H' → Q (.int ((i : Int) + 1)) H') ∧
  (d ∉ ds → ∀ H', (∀ b o, b ≠ md → b ≠ tl → H b = some o → H' b = some o) → TKeep H H' → SeA P w C H' p md tl (ds ++ [d]) → Q (.int ((ds.length : Int) + 1)) H')
theorem ok_mark (T : Txt K mg) : FnOk P w K mg base CX0 2 T.f_Sealer_mark T.d_Sealer_mark p_Sealer_mark (spMark P w T.C_Sealer) := by
  have G_spelled : FnOk P w K mg base CX0 1 T.f_spelled T.d_spelled p_spelled spSpell := ok_spelled T
  refine T.F_Sealer_mark.ok sc_Sealer_mark (fun vs H Q E h => ?_) (fun cdv A outer s H vs Q E hr h => ?_)
  · obtain ⟨p, md, tl, ds, v, d, rfl, _⟩ := h
    rfl
  · obtain ⟨p, md, tl, ds, v, d, rfl, ⟨dx, kvs, us, hp, hm, ht, htd, hnum, htx, hnod, hdp⟩, hd, hx, dd, dn, hl, k1, k2⟩ := h
    refine ⟨_, (pss_cons (ps_set (i := 2) sc_Sealer_mark.nd rfl (Or.inl rfl) (pe_call G_spelled (hr.mono (by decide)) rfl T.mg_spelled T.F_spelled.kp T.b_spelled .nil pass0 (pa_cons (pv 1) pa_nil)))
      (pss_cons (ps_if (pt_cmpR (op_ninTK (hu64 hr)) (pv 2) (pe_fld (pv 0) rfl) (by rfl)) (pss_cons (ps_expr (pe_bm PySem.F.plainAttrs_list PySem.F.slot_list_append PySem.F.type_list_append mt_append (pe_fld (pv 0) rfl) (pa_cons (pv 1) pa_nil)))
      (pss_one (ps_asg (pe_callB call_len_seq (by rfl) T.z_len PySem.boot_len (pa_cons (pe_fld (pv 0) rfl) pa_nil)) (pg_sub (pe_fld (pv 0) rfl) (pv 2) (set_tk (hu64 hr)))))) pss_nil)
      (pss_one (ps_ret (pe_ix (ix_tk (hu64 hr)) (pe_fld (pv 0) rfl) (pv 2) (fun _ _ => rfl)))))), ?_⟩
    refine ⟨_, rfl, v, d, rfl, hd, hx, dn, fun t H1 ht1 S1 hK => ?_⟩
    have hp1 := S1 _ _ hp
    have hm1 := S1 _ _ hm
    have htl1 := S1 _ _ ht
    have htd1 := htd.keep (sameTk S1)
    have hnum1 := hnum.keep (sameTk S1)
    have hd1 := hd.keep (sameTk S1)
    have hlen := hnum.length
    have hlu := htd.length
    refine ⟨_, rfl, _, rfl, p, T.C_Sealer, dx, _, _, rfl, hp1, T.cl_Sealer, T.na_Sealer__marks, rfl, t, md, spell d, kvs, rfl, rfl, hK.key, hm1, fun q hq => (hnum1.mem q hq).key, _, rfl, ?_⟩
    by_cases hin : d ∈ ds
    · obtain ⟨i, hi⟩ := List.mem_iff_getElem?.mp hin
      have e := hnum1.at hx htx hnod hi
      rw [show (!(atK kvs (spell d)).isSome) = false by rw [e]; rfl]
      refine iteF ?_
      refine ⟨_, rfl, p, T.C_Sealer, dx, _, _, rfl, hp1, T.cl_Sealer, T.na_Sealer__marks, rfl, _, rfl, t, md, spell d, kvs, _, rfl, rfl, hK.key, hm1, fun q hq => (hnum1.mem q hq).key, e, ?_⟩
      have := k1 i H1 hi S1
      rw [show ((0 + i : Nat) : Int) + 1 = (i : Int) + 1 by omega]
      exact this
    · have e := hnum1.none hx htx hin
      rw [show (!(atK kvs (spell d)).isSome) = true by rw [e]; rfl]
      refine iteT ?_
      have npt : p ≠ tl := fun z => by rw [z, htl1] at hp1; cases hp1
      have npm : p ≠ md := fun z => by rw [z, hm1] at hp1; exact (ins_mkd (Option.some.inj hp1).symm).elim
      have nmt : md ≠ tl := fun z => by rw [z, htl1] at hm1; exact (lst_mkd (Option.some.inj hm1)).elim
      refine ⟨_, rfl, p, T.C_Sealer, dx, _, _, rfl, hp1, T.cl_Sealer, T.na_Sealer__texts, rfl, .inl ⟨rfl, _, SqL.of htl1⟩, _, rfl, tl, us, v, rfl, rfl, htl1, small1000 (by omega), ?_⟩
      have K2 : TKeep H1 (upd H1 tl (.lst (us ++ [v]))) := TKeep.upd htl1
      have hp2 : upd H1 tl (.lst (us ++ [v])) p = _ := (upd_ne npt).trans hp1
      have hm2 : upd H1 tl (.lst (us ++ [v])) md = _ := (upd_ne nmt).trans hm1
      have hnum2 := hnum1.keep K2
      have hK2 := hK.keep K2
      refine ⟨_, rfl, p, T.C_Sealer, dx, _, _, rfl, hp2, T.cl_Sealer, T.na_Sealer__texts, rfl, tl, _, rfl, .inl (SqL.of upd_same), ?_⟩
      refine ⟨_, rfl, p, T.C_Sealer, dx, _, _, rfl, hp2, T.cl_Sealer, T.na_Sealer__marks, rfl, _, rfl, t, md, spell d, kvs, _, rfl, rfl, rfl, hK2.key, hm2, fun q hq => (hnum2.mem q hq).key, e, by omega, ?_⟩
      have en : (((us ++ [v]).length : Nat) : Int) = ((0 + ds.length : Nat) : Int) + 1 := by rw [List.length_append, List.length_singleton]; omega
      rw [en]
      have K3 : TKeep (upd H1 tl (.lst (us ++ [v]))) (upd (upd H1 tl (.lst (us ++ [v]))) md (MkD P w md (kvs ++ [(spell d, t, ((0 + ds.length : Nat) : Int) + 1)]))) := tkUpdM hm2
      have hnum3 : Num _ 0 (ds ++ [d]) (kvs ++ [(spell d, t, ((0 + ds.length : Nat) : Int) + 1)]) := (hnum2.keep K3).snoc (hK2.keep K3)
      have hx3 : txtAll (ds ++ [d]) = true := by rw [txtAll_app, htx]; simp [txtAll, hx]
      have hn3 : (ds ++ [d]).Nodup := List.nodup_append.mpr ⟨hnod, by simp, fun a ha b hb z => hin (by rw [List.mem_singleton.mp hb] at z; rw [← z]; exact ha)⟩
      have e3 := hnum3.at hx hx3 hn3 (i := ds.length) (by simp)
      refine ⟨_, rfl, p, T.C_Sealer, dx, _, _, rfl, by rw [upd_ne npm]; exact hp2, T.cl_Sealer, T.na_Sealer__marks, rfl, _, rfl, t, md, spell d, _, _, rfl, rfl, (hK2.keep K3).key, upd_same, fun q hq => (hnum3.mem q hq).key, e3, ?_⟩
      rw [show ((0 + ds.length : Nat) : Int) + 1 = (ds.length : Int) + 1 by omega] at *
      refine k2 hin _ (fun b o h1 h2 e => ?_) ((sameTk S1).trans (K2.trans K3)) ⟨dx, _, us ++ [v], by rw [upd_ne npm]; exact hp2, upd_same, by rw [upd_ne nmt.symm, upd_same], ((htd1.keep K2).snoc' (hd1.keep K2)).keep K3, hnum3, hx3, hn3, fun x hx => ?_⟩
      · rw [upd_ne h1, upd_ne h2]; exact S1 _ _ e
      · rcases List.mem_append.mp hx with hx | hx
        · exact hdp x hx
        · rw [List.mem_singleton.mp hx]; exact dd
end

/-! ### talks: requests and their ends -/
/-- a request that begins with z ends a talk -/
def endB (z : Str) : Bool := inV (.str z) [V.str "done", V.str "refused"]
theorem endB_done : endB "done" = true := by decide +kernel
theorem endB_refused : endB "refused" = true := by decide +kernel
/-- a value that is no list -/
def NL (K : PySem.W.Frag) (H : Hp) (v : V) : Prop := ∃ t, TyX K H v t ∧ PySem.W.kitOne K t (.type "list") = some false
theorem Td.nl {K : PySem.W.Frag} {H : Hp} : ∀ {d : PyData} {v : V}, Td H v d → NL K H v
  | _, _, .non => ⟨_, .base .non, kit_ty (by decide +kernel)⟩
  | _, _, .int i => ⟨_, .base (.int i), kit_ty (by decide +kernel)⟩
  | _, _, .str x _ => ⟨_, .base (.str x), kit_ty (by decide +kernel)⟩
  | _, _, .tup h _ => ⟨_, .base (.tup h), kit_ty (by decide +kernel)⟩
/-- what apart gives for the request at r -/
def Apt (K : PySem.W.Frag) (H : Hp) (r : Addr) (Q : VK) : Prop := ∃ (z : Str) (us : List V), H r = some (.tup (.str z :: us)) ∧ (z ≠ "done" → Q (.ref r) H) ∧
  (z = "done" → ∃ v ws, us = v :: ws ∧ ((NL K H v ∧ Q (.ref r) H) ∨ ∃ l ys, v = .ref l ∧ H l = some (.lst ys) ∧ ys.length ≤ sizeLine ∧
    ∀ l' t, H l' = none → (upd H l' (.lst ys)) t = none → Q (.ref t) (upd (upd H l' (.lst ys)) t (.tup [.str "done", .ref l']))))
theorem Apt.of {K : PySem.W.Frag} {H : Hp} {r : Addr} {Q : VK} {z : Str} {us : List V} (h : H r = some (.tup (.str z :: us))) (n : ∀ v ws, us = v :: ws → NL K H v) (hu : z = "done" → us ≠ []) (q : Q (.ref r) H) : Apt K H r Q :=
  ⟨z, us, h, fun _ => q, fun e => match us, hu e, n with
    | [], x, _ => absurd rfl x
    | v :: ws, _, n => ⟨v, ws, rfl, .inl ⟨n v ws rfl, q⟩⟩⟩
def spApart (K : PySem.W.Frag) : Sp := fun vs H Q _ => ∃ r, vs = [.ref r] ∧ Apt K H r Q
/-- what of the text a talk's class must have -/
structure TkC (K : PySem.W.Frag) (C : Addr) : Prop where
  cl : Cls K C
  n1 : NoAttr K C "answers"
  n2 : NoAttr K C "_request"
/-- the talk at a: its fields, the number of answers, the present request -/
structure Tk (C : Addr) (H : Hp) (a dx : Addr) (fs : List (Str × V)) (n : Int) (r : Addr) : Prop where
  at_ : H a = some (.ins C dx fs)
  ans : fs.lookup ("answers" : Str) = some (.int n)
  req : fs.lookup ("_request" : Str) = some (.ref r)
  m1 : fs.lookup ("request" : Str) = none
  m2 : fs.lookup ("has_ended" : Str) = none
  m3 : fs.lookup ("answer" : Str) = none
  m4 : fs.lookup ("following" : Str) = none
  len : fs.length < 900
def spTInit (K : PySem.W.Frag) (C : Addr) : Sp := fun vs H Q _ => ∃ (a dx r : Addr), vs = [.ref a, .ref r] ∧ H a = some (.ins C dx []) ∧
  Apt K (upd H a (.ins C dx [("answers", .int 0)])) r fun v H' => ∃ dx', H' a = some (.ins C dx' [("answers", .int 0)]) ∧ Q .non (upd H' a (.ins C dx' [("answers", .int 0), ("_request", v)]))
def spReq (K : PySem.W.Frag) (C : Addr) : Sp := fun vs H Q _ => ∃ (a dx : Addr) (fs : List (Str × V)) (n : Int) (r : Addr), vs = [.ref a] ∧ Tk C H a dx fs n r ∧ Apt K H r Q
def spEnded (C : Addr) : Sp := fun vs H Q _ => ∃ (a dx : Addr) (fs : List (Str × V)) (n : Int) (r : Addr) (z : Str) (us : List V), vs = [.ref a] ∧ Tk C H a dx fs n r ∧ H r = some (.tup (.str z :: us)) ∧ ∀ H', Same H H' → Q (.bl (endB z)) H'
theorem length_putF_le {f : Str} {v : V} {fs : List (Str × V)} : (putF f v fs).length ≤ fs.length + 1 := by
  have := length_putF f v fs
  omega
def spFolT : Sp := fun vs H Q _ => ∃ (a : Addr) (v : V), vs = [.ref a, v] ∧ ∀ t, H t = none → Q (.ref t) (upd H t (.tup [.str "done", v]))
section
variable {P : Program} {w : World} {K : PySem.W.Frag} {mg : Str → Option Value} {base : Heap}
theorem ok_apart (T : Txt K mg) : FnOk P w K mg base CX0 1 T.f_apart T.d_apart p_apart (spApart K) := by
  refine T.F_apart.ok sc_apart (fun vs H Q E h => ?_) (fun cdv A outer s H vs Q E hr h => ?_)
  · obtain ⟨r, rfl, _⟩ := h
    rfl
  · obtain ⟨r, rfl, z, us, hr2, k1, k2⟩ := h
    refine ⟨_, (pss_cons (ps_if (PW.pt (pw_and (pt_cmpR op_eq (pe_ix ix_tup (pv 0) pe_int (fun _ _ => rfl)) pe_str (nomark _)) (pw_and1 (pt_val (pe_callB call_isi (by rfl) T.z_isinstance (by decide +kernel) (pa_cons (pe_ix ix_tup (pv 0) pe_int (fun _ _ => rfl)) (pa_cons (pe_bltn (v := V.ty "list") (by rfl) T.z_list (by decide +kernel) rfl) pa_nil))))))) (pss_one (ps_ret (pe_tup (pa_cons pe_str (pa_cons (pe_callTy call_list_of (by rfl) T.z_list (by decide +kernel) (pa_cons (pe_ix ix_tup (pv 0) pe_int (fun _ _ => rfl)) pa_nil)) pa_nil))))) pss_nil)
      (pss_one (ps_ret (pv 0)))), ?_⟩
    refine ⟨_, rfl, r, _, _, _, rfl, rfl, SqT.of hr2, atI_nat (j := 0) rfl, rfl, _, rfl, ?_⟩
    by_cases e : z = "done"
    · subst e
      obtain ⟨v, ws, rfl, k3⟩ := k2 rfl
      refine iteDT rfl ?_
      refine ⟨_, rfl, r, _, _, _, rfl, rfl, SqT.of hr2, atI_nat (j := 1) rfl, ?_⟩
      rcases k3 with ⟨⟨t, ty, kt⟩, q⟩ | ⟨l, ys, rfl, hl, hz, q⟩
      · refine ⟨v, _, t, _, false, rfl, .ty "list", ty, kt, ?_⟩
        exact ⟨_, rfl, iteF ⟨_, rfl, q⟩⟩
      · refine ⟨.ref l, _, .type "list", _, true, rfl, .ty "list", .base (.lst hl), kit_ty (by decide +kernel), ?_⟩
        refine ⟨_, rfl, iteT ?_⟩
        refine ⟨_, rfl, r, _, _, _, rfl, rfl, SqT.of hr2, atI_nat (j := 1) rfl, l, _, rfl, .inl (SqL.of hl), fun l' hl' => ?_⟩
        exact ⟨(by show 2 ≤ sizeLine; decide), fun t ht => q l' t hl' ht⟩
    · refine iteDF (fun x => e (by injection x)) ?_
      exact ⟨_, rfl, k1 e⟩
theorem ok_tinit (T : Txt K mg) {C : Addr} (TC : TkC K C) : FnOk P w K mg base CX0 2 T.f_Talk___init__ T.d_Talk___init__ p_Talk___init__ (spTInit K C) := by
  have G_apart : FnOk P w K mg base CX0 1 T.f_apart T.d_apart p_apart (spApart K) := ok_apart T
  refine T.F_Talk___init__.ok sc_Talk___init__ (fun vs H Q E h => ?_) (fun cdv A outer s H vs Q E hr h => ?_)
  · obtain ⟨a, dx, r, rfl, _⟩ := h
    rfl
  · obtain ⟨a, dx, r, rfl, ha, k⟩ := h
    refine ⟨_, (pss_cons (ps_fld (pv 0) pe_int rfl)
      (pss_one (ps_fld (pv 0) (pe_call G_apart (hr.mono (by decide)) rfl T.mg_apart T.F_apart.kp T.b_apart .nil pass0 (pa_cons (pv 1) pa_nil)) rfl))), ?_⟩
    refine ⟨_, rfl, a, C, dx, _, rfl, ha, TC.cl, TC.n1, (by show 0 < 1000; decide), ?_⟩
    obtain ⟨z, us, h1, h2, h3⟩ := k
    refine ⟨_, rfl, r, rfl, z, us, h1, fun e => ?_, fun e => ?_⟩
    · obtain ⟨dx', q1, q2⟩ := h2 e
      exact ⟨_, rfl, a, C, dx', _, rfl, q1, TC.cl, TC.n2, (by show 1 < 1000; decide), q2⟩
    · obtain ⟨v, ws, e1, e2⟩ := h3 e
      refine ⟨v, ws, e1, ?_⟩
      rcases e2 with ⟨x, dx', q1, q2⟩ | ⟨l, ys, x1, x2, x3, x4⟩
      · exact .inl ⟨x, _, rfl, a, C, dx', _, rfl, q1, TC.cl, TC.n2, (by show 1 < 1000; decide), q2⟩
      · refine .inr ⟨l, ys, x1, x2, x3, fun l' t y1 y2 => ?_⟩
        obtain ⟨dx', q1, q2⟩ := x4 l' t y1 y2
        exact ⟨_, rfl, a, C, dx', _, rfl, q1, TC.cl, TC.n2, (by show 1 < 1000; decide), q2⟩
theorem ok_req (T : Txt K mg) {C : Addr} (TC : TkC K C) : FnOk P w K mg base CX0 2 T.f_Talk_request T.d_Talk_request p_Talk_request (spReq K C) := by
  have G_apart : FnOk P w K mg base CX0 1 T.f_apart T.d_apart p_apart (spApart K) := ok_apart T
  refine T.F_Talk_request.ok sc_Talk_request (fun vs H Q E h => ?_) (fun cdv A outer s H vs Q E hr h => ?_)
  · obtain ⟨a, dx, fs, n, r, rfl, _⟩ := h
    rfl
  · obtain ⟨a, dx, fs, n, r, rfl, t, k⟩ := h
    refine ⟨_, (pss_one (ps_ret (pe_call G_apart (hr.mono (by decide)) rfl T.mg_apart T.F_apart.kp T.b_apart .nil pass0 (pa_cons (pe_fld (pv 0) rfl) pa_nil)))), ?_⟩
    exact ⟨_, rfl, a, C, dx, _, _, rfl, t.at_, TC.cl, TC.n2, t.req, r, rfl, k⟩
theorem ok_ended (T : Txt K mg) {C : Addr} (TC : TkC K C) : FnOk P w K mg base CX0 1 T.f_Talk_has_ended T.d_Talk_has_ended p_Talk_has_ended (spEnded C) := by
  refine T.F_Talk_has_ended.ok sc_Talk_has_ended (fun vs H Q E h => ?_) (fun cdv A outer s H vs Q E hr h => ?_)
  · obtain ⟨a, dx, fs, n, r, z, us, rfl, _⟩ := h
    rfl
  · obtain ⟨a, dx, fs, n, r, z, us, rfl, t, hr2, k⟩ := h
    refine ⟨_, (pss_one (ps_ret (pe_cmpR op_in_seq (pe_ix ix_tup (pe_fld (pv 0) rfl) pe_int (fun _ _ => rfl)) (pe_tup (pa_cons pe_str (pa_cons pe_str pa_nil))) (by rfl)))), ?_⟩
    refine ⟨_, rfl, a, C, dx, _, _, rfl, t.at_, TC.cl, TC.n2, t.req, r, _, _, _, rfl, rfl, SqT.of hr2, atI_nat (j := 0) rfl, ?_⟩
    refine ⟨(by show 2 ≤ sizeLine; decide), fun p hp => ?_⟩
    exact ⟨p, _, rfl, .inr (SqT.of upd_same), rfl, rfl, k _ (Same.new hp)⟩
theorem ok_folT (T : Txt K mg) : FnOk P w K mg base CX0 1 T.f_Talk_following T.d_Talk_following p_Talk_following spFolT := by
  refine T.F_Talk_following.ok sc_Talk_following (fun vs H Q E h => ?_) (fun cdv A outer s H vs Q E hr h => ?_)
  · obtain ⟨a, v, rfl, _⟩ := h
    rfl
  · obtain ⟨a, v, rfl, k⟩ := h
    refine ⟨_, (pss_one (ps_ret (pe_tup (pa_cons pe_str (pa_cons (pv 1) pa_nil))))), ?_⟩
    exact ⟨_, rfl, (by show 2 ≤ sizeLine; decide), fun t ht => k t ht⟩
/-- answer of a talk that has not ended, by what following does -/
def spAns0 (C : Addr) (spF : Sp) : Sp := fun vs H Q _ => ∃ (a dx : Addr) (fs : List (Str × V)) (n : Int) (r : Addr) (z : Str) (us : List V) (v : V), vs = [.ref a, v] ∧ Tk C H a dx fs n r ∧ H r = some (.tup (.str z :: us)) ∧ endB z = false ∧
  ∀ H1, Same H H1 → ∀ R : VK, (∀ u H2 dx2 fs2, H2 a = some (.ins C dx2 fs2) → fs2.length < 1000 → Q .non (upd H2 a (.ins C dx2 (putF "_request" u fs2))) → R u H2) →
    ∀ E2, spF [.ref a, v] (upd H1 a (.ins C dx (putF "answers" (.int (n + 1)) fs))) R E2
theorem ok_ans0 (T : Txt K mg) {C fF : Addr} {fdF : FuncData} {psF : List Str} {spF : Sp} (TC : TkC K C) (M_has_ended : Meth K C "has_ended" T.f_Talk_has_ended) (M_following : Meth K C "following" fF) (B_following : Binds K fdF psF [])
    {kF : Nat} (G_following : FnOk P w K mg base CX0 kF fF fdF psF spF) : FnOk P w K mg base CX0 (kF + 2) T.f_Talk_answer T.d_Talk_answer p_Talk_answer (spAns0 C spF) := by
  have G_has_ended : FnOk P w K mg base CX0 1 T.f_Talk_has_ended T.d_Talk_has_ended p_Talk_has_ended (spEnded C) := ok_ended T TC
  have B_has_ended := T.b_Talk_has_ended
  refine T.F_Talk_answer.ok sc_Talk_answer (fun vs H Q E h => ?_) (fun cdv A outer s H vs Q E hr h => ?_)
  · obtain ⟨a, dx, fs, n, r, z, us, v, rfl, _⟩ := h
    rfl
  · obtain ⟨a, dx, fs, n, r, z, us, v, rfl, t, hr2, e, k2⟩ := h
    refine ⟨_, (pss_cons (ps_if (pt_val (pe_meth0 (pv 0) TC.cl M_has_ended G_has_ended (hr.mono (by omega)) B_has_ended .nil pass0)) (pss_one ps_never) pss_nil)
      (pss_cons (ps_fldaug (pv 0) pe_int in_add)
      (pss_one (ps_fld (pv 0) (pe_meth (pv 0) TC.cl M_following G_following (hr.mono (by omega)) B_following .nil pass0 (pa_cons (pv 1) pa_nil)) rfl)))), ?_⟩
    refine ⟨_, rfl, a, dx, fs, rfl, t.at_, t.m2, a, dx, fs, n, r, z, us, rfl, t, hr2, fun H1 S1 => ?_⟩
    refine ⟨_, rfl, ?_⟩
    rw [e]
    refine iteF ?_
    refine ⟨_, rfl, a, C, dx, fs, _, rfl, S1 _ _ t.at_, TC.cl, TC.n1, t.ans, n, 1, rfl, rfl, dx, fs, S1 _ _ t.at_, (by have := t.len; omega), ?_⟩
    refine ⟨_, rfl, a, dx, _, rfl, upd_same, by rw [lookup_putF, if_neg (by decide)]; exact t.m4, _, rfl, ?_⟩
    exact k2 H1 S1 _ (fun u H2 dx2 fs2 q1 q2 q3 => ⟨_, rfl, a, C, dx2, fs2, rfl, q1, TC.cl, TC.n2, q2, q3⟩) _
end

/-! ### cells: parts, CellTalk -/
theorem td_new {H : Hp} {a : Addr} {vs : List V} {ds : List PyData} (h : H a = none) (t : TdAll H vs ds) : Td (upd H a (.tup vs)) (.ref a) (.tuple ds) := .tup upd_same (t.keep (sameTk (Same.new h)))
def spParts : Sp := fun vs H Q _ => ∃ (t : Addr) (x : V) (us : List V), vs = [.ref t] ∧ H t = some (.tup (x :: us)) ∧ us ≠ [] ∧ us.length ≤ 900 ∧ ∀ q, H q = none → Q (.ref q) (upd H q (.tup us))
/-- what of the text a cell talk's class must have -/
structure TkD (K : PySem.W.Frag) (C : Addr) : Prop extends TkC K C where
  n3 : NoAttr K C "_sealer"
  n4 : NoAttr K C "_entry"
def clF (r p e : Addr) : List (Str × V) := [("answers", .int 0), ("_request", .ref r), ("_sealer", .ref p), ("_entry", .ref e)]
def spClInit (C : Addr) : Sp := fun vs H Q _ => ∃ (a dx p e : Addr) (b m : Int), vs = [.ref a, .ref p, .ref e] ∧ H a = some (.ins C dx []) ∧ H e = some (.tup [.int b, .int m]) ∧
  ∀ (r dx' : Addr) (H' : Hp), H r = none → H' a = some (.ins C dx' (clF r p e)) → H' r = some (.tup [.str "read", .int b]) → (∀ x o, x ≠ a → H x = some o → H' x = some o) → Q .non H'
def spReading (C : Addr) : Sp := fun vs H Q _ => ∃ (a dx e : Addr) (fs : List (Str × V)) (b m : Int), vs = [.ref a, .ref e] ∧ H a = some (.ins C dx fs) ∧ fs.length < 900 ∧ H e = some (.tup [.int b, .int m]) ∧
  ∀ q, (upd H a (.ins C dx (putF "_entry" (.ref e) fs))) q = none → Q (.ref q) (upd (upd H a (.ins C dx (putF "_entry" (.ref e) fs))) q (.tup [.str "read", .int b]))
/-- following, by what accepted does -/
def spClFol (P : Program) (w : World) (CS C : Addr) (spA : Sp) : Sp := fun vs H Q E => ∃ (a dx p md tl e : Addr) (fs : List (Str × V)) (b m : Int) (v : V) (d : PyData) (ds : List PyData), vs = [.ref a, v] ∧ H a = some (.ins C dx fs) ∧ fs.lookup ("_entry" : Str) = some (.ref e) ∧ fs.lookup ("_sealer" : Str) = some (.ref p) ∧ fs.lookup ("accepted" : Str) = none ∧
  H e = some (.tup [.int b, .int m]) ∧ SeA P w CS H p md tl ds ∧ Td H v d ∧ d.depth ≤ 60 ∧ nd d ≤ 200 ∧
  (kn ds d m = false → ∀ H1 t, Same H H1 → H1 t = none → Q (.ref t) (upd H1 t (.tup [.str "refused", .int b]))) ∧ (kn ds d m = true → ∀ H1, Same H H1 → ∀ E2, spA [.ref a, v] H1 Q E2)
section
variable {P : Program} {w : World} {K : PySem.W.Frag} {mg : Str → Option Value} {base : Heap}
theorem ok_parts (T : Txt K mg) : FnOk P w K mg base CX0 1 T.f_parts T.d_parts p_parts spParts := by
  refine T.F_parts.ok sc_parts (fun vs H Q E h => ?_) (fun cdv A outer s H vs Q E hr h => ?_)
  · obtain ⟨t, x, us, rfl, _⟩ := h
    rfl
  · obtain ⟨t, x, us, rfl, ht, hn, hl, k⟩ := h
    refine ⟨_, (pss_one (ps_ret (pe_slice (sl_tupA) (pv 0) (po_some pe_int) po_none))), ?_⟩
    have h1 : HT.sIx (x :: us).length 0 (some 1) = 1 := by
      rw [List.length_cons]; unfold HT.sIx; simp <;> omega
    have h2 : HT.sIx (x :: us).length (x :: us).length none = (x :: us).length := rfl
    refine ⟨_, rfl, 1, rfl, t, _, rfl, SqT.of ht, fun z => ?_, fun _ q hq => ?_⟩
    · rw [h1] at z
      exact absurd z.1 (by decide)
    · have e : cutV (x :: us) (some 1) none = us := by
        unfold cutV
        rw [h1, h2]
        simp
      rw [e]
      exact k q hq
theorem b_CellTalk___init__ (T : Txt K mg) : Binds K T.d_CellTalk___init__ p_CellTalk___init__ [] := by
  obtain ⟨oc, od, an, osl, kV, doc, pm, ct, e, _⟩ := T.lk_CellTalk___init__
  rw [e]
  exact .all fun us hl => match us, hl with | [_, _, _], _ => rfl
theorem ok_clinit (T : Txt K mg) (TF : TxF P T) {C : Addr} (TC : TkD K C) (SO : SupO T.file_CellTalk___init__ K C T.C_CellTalk T.cc_CellTalk___init__ T.cda_CellTalk___init__ T.f_Talk___init__ "__init__" (defArgs s_CellTalk___init__)) :
    FnOk P w K mg base CX0 3 T.f_CellTalk___init__ T.d_CellTalk___init__ p_CellTalk___init__ (spClInit C) := by
  have G_tinit : FnOk P w K mg base CX0 2 T.f_Talk___init__ T.d_Talk___init__ p_Talk___init__ (spTInit K C) := ok_tinit T TC.toTkC
  obtain ⟨oc, od, an, osl, kV, doc, pm, ct, e, lk, hcd⟩ := T.lk_CellTalk___init__
  obtain ⟨cl, cld, csl, hcell⟩ := SO.cell
  rw [e] at lk ⊢
  refine fn_ofA (C := T.C_CellTalk) lk hcd sc_CellTalk___init__ hcell (fun vs H Q E h => ?_) (fun A outer s H vs Q E hr h => ?_)
  · obtain ⟨a, dx, p, e, b, m, rfl, _⟩ := h
    rfl
  · obtain ⟨a, dx, p, en, b, m, rfl, ha, he, k⟩ := h
    refine ⟨_, psa_super lk sc_CellTalk___init__ SO TF.hs_CellTalk___init__ T.z_super G_tinit (hr.mono (by decide)) T.b_Talk___init__ pass0 (E2 := E)
      (pa_cons (pe_tup (pa_cons pe_str (pa_cons (pe_ix ix_tup (pv 2) pe_int (fun _ _ => rfl)) pa_nil))) pa_nil) (psa_of (pss_cons (ps_fld (pv 0) (pv 1) rfl)
      (pss_one (ps_fld (pv 0) (pv 2) rfl)))) (by decide) _ (fun _ => rfl) (fun _ => rfl) (fun _ => rfl) (fun _ => rfl), ?_⟩
    refine ⟨a, dx, [], rfl, ha, ?_⟩
    refine ⟨_, rfl, en, _, _, _, rfl, rfl, SqT.of he, atI_nat (j := 0) rfl, (by show 2 ≤ sizeLine; decide), fun r hr2 => ?_⟩
    have nra : r ≠ a := fun y => by rw [y, ha] at hr2; cases hr2
    refine ⟨a, dx, r, rfl, by rw [upd_ne nra.symm]; exact ha, ?_⟩
    refine Apt.of (by rw [upd_ne nra, upd_same]) (fun v ws e => by cases e; exact ⟨_, .base (.int _), kit_ty (by decide +kernel)⟩) (fun e => absurd e (by decide +kernel)) ⟨dx, upd_same, ?_⟩
    rw [upd_upd]
    refine ⟨_, rfl, _, rfl, a, C, dx, _, rfl, upd_same, TC.cl, TC.n3, (by show 2 < 1000; decide), ?_⟩
    rw [upd_upd]
    refine ⟨_, rfl, _, rfl, a, C, dx, _, rfl, upd_same, TC.cl, TC.n4, (by show 3 < 1000; decide), ?_⟩
    rw [upd_upd]
    exact k r dx _ hr2 upd_same (by rw [upd_ne nra, upd_same]) fun x o nx e => by rw [upd_ne nx, upd_ne (ne_of_none e hr2)]; exact e
theorem ok_reading (T : Txt K mg) {C : Addr} (TC : TkD K C) : FnOk P w K mg base CX0 1 T.f_CellTalk_reading T.d_CellTalk_reading p_CellTalk_reading (spReading C) := by
  refine T.F_CellTalk_reading.ok sc_CellTalk_reading (fun vs H Q E h => ?_) (fun cdv A outer s H vs Q E hr h => ?_)
  · obtain ⟨a, dx, e, fs, b, m, rfl, _⟩ := h
    rfl
  · obtain ⟨a, dx, e, fs, b, m, rfl, ha, hl, he, k⟩ := h
    refine ⟨_, (pss_cons (ps_fld (pv 0) (pv 1) rfl)
      (pss_one (ps_ret (pe_tup (pa_cons pe_str (pa_cons (pe_ix ix_tup (pv 1) pe_int (fun _ _ => rfl)) pa_nil)))))), ?_⟩
    have nea : e ≠ a := fun y => by rw [y, ha] at he; cases he
    refine ⟨_, rfl, _, rfl, a, C, dx, _, rfl, ha, TC.cl, TC.n4, (by omega), ?_⟩
    refine ⟨_, rfl, e, _, _, _, rfl, rfl, SqT.of (by rw [upd_ne nea]; exact he), atI_nat (j := 0) rfl, (by show 2 ≤ sizeLine; decide), fun q hq => k q hq⟩
theorem ok_clfol (T : Txt K mg) {C fA : Addr} {fdA : FuncData} {psA : List Str} {spA : Sp} (TC : TkD K C) (M_accepted : Meth K C "accepted" fA) (B_accepted : Binds K fdA psA []) {kA : Nat} (G_accepted : FnOk P w K mg base CX0 kA fA fdA psA spA) :
    FnOk P w K mg base CX0 (kA + 4) T.f_CellTalk_following T.d_CellTalk_following p_CellTalk_following (spClFol P w T.C_Sealer C spA) := by
  have G_Sealer_knows : FnOk P w K mg base CX0 2 T.f_Sealer_knows T.d_Sealer_knows p_Sealer_knows (spKnows P w T.C_Sealer) := ok_knows T
  refine T.F_CellTalk_following.ok sc_CellTalk_following (fun vs H Q E h => ?_) (fun cdv A outer s H vs Q E hr h => ?_)
  · obtain ⟨a, dx, p, md, tl, e, fs, b, m, v, d, ds, rfl, _⟩ := h
    rfl
  · obtain ⟨a, dx, p, md, tl, e, fs, b, m, v, d, ds, rfl, ha, l1, l2, l3, he, hse, hv, hd, hn, k1, k2⟩ := h
    refine ⟨_, (pss_cons (ps_asg (pe_fld (pv 0) rfl) (pg_tup rfl (pgs_cons (pg_name (i := 2) sc_CellTalk_following.nd rfl (Or.inl rfl)) (pgs_cons (pg_name (i := 3) sc_CellTalk_following.nd rfl (Or.inl rfl)) pgs_nil))))
      (pss_cons (ps_if (pt_not (pt_val (pe_meth (pe_fld (pv 0) rfl) T.cl_Sealer T.m_Sealer_knows G_Sealer_knows (hr.mono (by omega)) T.b_Sealer_knows .nil pass0 (pa_cons (pv 1) (pa_cons (pv 3) pa_nil))))) (pss_one (ps_ret (pe_tup (pa_cons pe_str (pa_cons (pv 2) pa_nil))))) pss_nil)
      (pss_one (ps_ret (pe_meth (pv 0) TC.cl M_accepted G_accepted (hr.mono (by omega)) B_accepted .nil pass0 (pa_cons (pv 1) pa_nil)))))), ?_⟩
    refine ⟨_, rfl, a, C, dx, _, _, rfl, ha, TC.cl, TC.n4, l1, e, _, rfl, SqT.of he, rfl, _, _, rfl, _, _, rfl, rfl, ?_⟩
    obtain ⟨dxs, kv0, vs0, hp0, _⟩ := id hse
    refine ⟨_, rfl, a, C, dx, _, _, rfl, ha, TC.cl, TC.n3, l2, p, dxs, _, rfl, hp0, rfl, _, rfl, _, rfl, p, md, tl, ds, v, d, m, rfl, hse, hv, hd, hn, fun H1 S1 => ?_⟩
    refine ⟨_, rfl, ?_⟩
    cases e : kn ds d m with
    | true =>
      refine iteF ?_
      exact ⟨_, rfl, a, dx, _, rfl, S1 _ _ ha, l3, _, rfl, k2 e H1 S1 _⟩
    | false =>
      refine iteT ?_
      exact ⟨_, rfl, (by show 2 ≤ sizeLine; decide), fun t ht => k1 e H1 t S1 ht⟩
end

theorem hu1 {k : Nat} {X : Cx} (hr : Room k X.A) : X.A.units + 1 < cLine := by
  have := hr.units
  omega
/-! ### frames -/
def Fr (A : List Addr) (H H' : Hp) : Prop := ∀ x o, x ∉ A → H x = some o → H' x = some o
theorem Fr.refl {A : List Addr} (H : Hp) : Fr A H H := fun _ _ _ e => e
theorem Fr.trans {A : List Addr} {H H1 H2 : Hp} (x : Fr A H H1) (y : Fr A H1 H2) : Fr A H H2 := fun b o n e => y b o n (x b o n e)
theorem Fr.same {A : List Addr} {H H1 : Hp} (x : Same H H1) : Fr A H H1 := fun b o _ e => x b o e
theorem Fr.upd {A : List Addr} {H : Hp} {a : Addr} {o : HO} (h : a ∈ A) : Fr A H (upd H a o) := fun b u n e => by rw [L2.upd_ne (fun z => n (by rw [z]; exact h))]; exact e
theorem Fr.new {A : List Addr} {H : Hp} {a : Addr} {o : HO} (h : H a = none) : Fr A H (L2.upd H a o) := Fr.same (Same.new h)
theorem Fr.mono {A B : List Addr} {H H1 : Hp} (x : Fr A H H1) (h : ∀ y ∈ A, y ∈ B) : Fr B H H1 := fun b o n e => x b o (fun z => n (h _ z)) e
/-- a does not stand as a tuple -/
def NT (H : Hp) (a : Addr) : Prop := ∀ vs, H a ≠ some (.tup vs)
theorem NT.ins {H : Hp} {a C dx : Addr} {fs : List (Str × V)} (h : H a = some (.ins C dx fs)) : NT H a := fun vs e => by rw [h] at e; cases e
theorem NT.lst {H : Hp} {a : Addr} {xs : List V} (h : H a = some (.lst xs)) : NT H a := fun vs e => by rw [h] at e; cases e
theorem NT.dT {H : Hp} {a : Addr} {kvs : List (List Key × V)} (h : H a = some (.dT kvs)) : NT H a := fun vs e => by rw [h] at e; cases e
theorem NT.dK {H : Hp} {a : Addr} {kvs : List (Key × V)} (h : H a = some (.dK kvs)) : NT H a := fun vs e => by rw [h] at e; cases e
theorem NT.no {H : Hp} {a : Addr} (h : H a = none) : NT H a := fun vs e => by rw [h] at e; cases e
theorem Fr.tk {A : List Addr} {H H1 : Hp} (x : Fr A H H1) (h : ∀ y ∈ A, NT H y) : TKeep H H1 := fun b vs e => x b _ (fun z => h b z vs e) e
theorem Fr.tk1 {a : Addr} {H H1 : Hp} (x : Fr [a] H H1) (h : NT H a) : TKeep H H1 := x.tk fun y hy => by rw [List.mem_singleton.mp hy]; exact h
theorem Fr.tk2 {a c : Addr} {H H1 : Hp} (x : Fr [a, c] H H1) (h : NT H a) (h2 : NT H c) : TKeep H H1 := x.tk fun y hy => by
  rcases List.mem_cons.mp hy with e | hy
  · rw [e]; exact h
  · rw [List.mem_singleton.mp hy]; exact h2
theorem Fr.at {A : List Addr} {H H1 : Hp} {b : Addr} {o : HO} (x : Fr A H H1) (e : H b = some o) (n : b ∉ A) : H1 b = some o := x b o n e
/-- two objects of unlike kinds -/
theorem ne_k {H : Hp} {a b : Addr} {o u : HO} (h1 : H a = some o) (h2 : H b = some u) (h : o ≠ u) : a ≠ b := fun e => by
  rw [e, h2] at h1; exact h (Option.some.inj h1).symm
theorem nm1 {a b : Addr} (h : a ≠ b) : a ∉ [b] := fun z => h (List.mem_singleton.mp z)
theorem nm2 {a b c : Addr} (h : a ≠ b) (h2 : a ≠ c) : a ∉ [b, c] := fun z => by
  rcases List.mem_cons.mp z with e | z
  · exact h e
  · exact h2 (List.mem_singleton.mp z)
/-- the sealer's objects are none of these -/
structure SeN (P : Program) (w : World) (C : Addr) (H : Hp) (p md tl : Addr) (A : List Addr) : Prop where
  p : p ∉ A
  m : md ∉ A
  t : tl ∉ A
theorem SeA.fr {P : Program} {w : World} {C : Addr} {H H' : Hp} {p md tl : Addr} {ds : List PyData} {A : List Addr} (h : SeA P w C H p md tl ds) (F : Fr A H H') (hn : ∀ y ∈ A, NT H y) (n : p ∉ A ∧ md ∉ A ∧ tl ∉ A) : SeA P w C H' p md tl ds :=
  h.keep (F.tk hn) (fun o e => F _ _ n.1 e) (fun o e => F _ _ n.2.1 e) fun o e => F _ _ n.2.2 e
theorem ins_ne {C C' dx dx' : Addr} {fs fs' : List (Str × V)} (h : fs.length ≠ fs'.length) : HO.ins C dx fs ≠ HO.ins C' dx' fs' := fun e => by
  injection e with _ _ e
  exact h (by rw [e])
/-- an instance with other fields is none of the sealer's objects -/
theorem SeA.nI {P : Program} {w : World} {C : Addr} {H : Hp} {p md tl : Addr} {ds : List PyData} (h : SeA P w C H p md tl ds) {a D dx : Addr} {fs : List (Str × V)} (ha : H a = some (.ins D dx fs)) (hf : fs.length ≠ 2) : p ≠ a ∧ md ≠ a ∧ tl ≠ a := by
  obtain ⟨d, kvs, vs, h1, h2, h3, _⟩ := h
  refine ⟨ne_k h1 ha (ins_ne fun e => hf e.symm), fun e => ?_, ne_k h3 ha (by intro z; cases z)⟩
  rw [e, ha] at h2
  exact (ins_mkd (Option.some.inj h2)).elim
theorem SeA.nN {P : Program} {w : World} {C : Addr} {H : Hp} {p md tl : Addr} {ds : List PyData} (h : SeA P w C H p md tl ds) {a : Addr} (ha : H a = none) : p ≠ a ∧ md ≠ a ∧ tl ≠ a := by
  obtain ⟨d, kvs, vs, h1, h2, h3, _⟩ := h
  exact ⟨ne_of_none h1 ha, ne_of_none h2 ha, ne_of_none h3 ha⟩
theorem TdAll.at {H : Hp} : ∀ {ds : List PyData} {vs : List V} {i : Nat} {d : PyData}, TdAll H vs ds → ds[i]? = some d → ∃ v, vs[i]? = some v ∧ Td H v d
  | _, _, i, d, .nil, h => by simp at h
  | _, _, 0, d, .cons h t, e => by cases e; exact ⟨_, rfl, h⟩
  | _, _, i + 1, d, .cons h t, e => by
    obtain ⟨v, h1, h2⟩ := TdAll.at t (i := i) (d := d) (by simpa using e)
    exact ⟨v, by simpa using h1, h2⟩

section
variable {P : Program} {w : World} {K : PySem.W.Frag} {mg : Str → Option Value} {base : Heap}
theorem ok_way (T : Txt K mg) : FnOk P w K mg base CX0 1 T.f_Shape_way T.d_Shape_way p_Shape_way (spWay T.C_Shape) := by
  refine T.F_Shape_way.ok sc_Shape_way (fun vs H Q E h => ?_) (fun cdv A outer s H vs Q E hr h => ?_)
  · obtain ⟨p, f, d, w, b, s, i, rfl, _⟩ := h
    rfl
  · obtain ⟨p, f, d, w, b, s, i, rfl, ⟨dx, hp⟩, ⟨h1, h2, h3, h4, _⟩, h0, k⟩ := h
    refine ⟨_, (pss_cons (ps_set (i := 2) sc_Shape_way.nd rfl (Or.inl rfl) (pe_lst pa_nil))
      (pss_cons (ps_set (i := 3) sc_Shape_way.nd rfl (Or.inl rfl) (pv 1))
      (pss_cons (ps_for PassesOwn.never rfl (pi_range1 rfl T.z_range (pa_cons (pe_fld (pv 0) rfl) pa_nil)) (pg_name (i := 4) sc_Shape_way.nd rfl (Or.inl rfl)) (pss_cons (ps_expr (pe_bm PySem.F.plainAttrs_list PySem.F.slot_list_append PySem.F.type_list_append mt_append (pv 2) (pa_cons (pe_op op_modN (pv 3) (pe_fld (pv 0) rfl)) pa_nil)))
      (pss_one (ps_set (i := 3) sc_Shape_way.nd rfl (Or.inl rfl) (pe_op op_fdivN (pv 3) (pe_fld (pv 0) rfl))))))
      (pss_one (ps_ret (pe_callTy call_tuple_of (by rfl) T.z_tuple (by decide +kernel) (pa_cons (pe_revL (pv 2)) pa_nil))))))), ?_⟩
    refine ⟨Nat.zero_le _, fun l hl => ?_⟩
    have npl : p ≠ l := ne_of_none hp hl
    have hf0 : f ≠ 0 := by omega
    have hf1 : f.natAbs < 1073741824 := by omega
    have hpl : ∀ o, (upd H l o) p = some (.ins T.C_Shape dx (shF f d w b s)) := fun o => by rw [upd_ne npl]; exact hp
    have hpl2 : ∀ o o2, (upd (upd H l o) l o2) p = some (.ins T.C_Shape dx (shF f d w b s)) := fun o o2 => by rw [upd_upd]; exact hpl _
    refine ⟨_, rfl, _, rfl, p, T.C_Shape, dx, _, _, rfl, hpl _, T.cl_Shape, T.na_Shape_depth, rfl, _, rfl, by omega, by omega, for_range (n := d.toNat) (fun j σ H' => ∃ (v : Option V),
      σ = [some (.ref p), some (.int i), some (.ref l), some (.int (i / f ^ j)), v] ∧ H' = upd H l (.lst (((List.range j).map fun m => i / f ^ m % f).map V.int))) ⟨none, ?_, rfl⟩ ?_ ?_⟩
    · rw [Int.pow_zero, Int.ediv_one]; rfl
    · rintro j σ H' hj ⟨v, rfl, rfl⟩
      refine ⟨_, rfl, .inl ⟨rfl, _, SqL.of upd_same⟩, _, rfl, _, rfl, p, T.C_Shape, dx, _, _, rfl, hpl _, T.cl_Shape, T.na_Shape_fanout, rfl, _, _, rfl, rfl, hf0, l, _, _, rfl, rfl, upd_same, small1000 (by simp; omega), ?_⟩
      refine ⟨_, rfl, _, rfl, p, T.C_Shape, dx, _, _, rfl, hpl2 _ _, T.cl_Shape, T.na_Shape_fanout, rfl, _, _, rfl, rfl, ⟨hf0, hf1⟩, ?_⟩
      refine ⟨some (V.int (0 + (j : Nat))), ?_, ?_⟩
      · show [some (V.ref p), some (V.int i), some (V.ref l), some (V.int ((i / f ^ j).fdiv f)), some (V.int (0 + (j : Nat)))] = _
        rw [Int.fdiv_eq_ediv_of_nonneg _ (by omega), Int.ediv_ediv_of_nonneg (Int.pow_nonneg (by omega)), ← Int.pow_succ]
      · dsimp only
        rw [upd_upd, List.range_succ, List.map_append, List.map_append, Int.fmod_eq_emod_of_nonneg _ (by omega)]; rfl
    · rintro σ H' ⟨v, rfl, rfl⟩
      refine ⟨_, rfl, l, _, rfl, SqL.of upd_same, fun q hq => ?_⟩
      refine ⟨q, _, rfl, .inl ⟨SqL.of upd_same, fun t ht => ?_⟩⟩
      have hql : q ≠ l := fun e => by rw [e, upd_same] at hq; cases hq
      have htq : t ≠ q := fun e => by rw [e, upd_same] at ht; cases ht
      rw [upd_ne htq] at ht
      have htl : t ≠ l := fun e => by rw [e, upd_same] at ht; cases ht
      rw [upd_ne htl] at ht
      rw [upd_ne hql] at hq
      refine k t _ ht ((Same.new hl).trans ((Same.new (by rw [upd_ne hql]; exact hq)).trans (Same.new (by rw [upd_ne htq, upd_ne htl]; exact ht)))) ?_
      rw [upd_same, wayV, List.map_reverse]

end
/-! ### ReadTalk -/
def rdQ (b : Int) : PyData := .tuple [.str ("read" : Str), .int b]
def rfQ (b : Int) : PyData := .tuple [.str ("refused" : Str), .int b]
def dnQ (d : PyData) : PyData := .tuple [.str ("done" : Str), d]
def eE (b m : Int) : PyData := .tuple [.int b, .int m]
theorem Td.eE {H : Hp} {v : V} {b m : Int} (h : Td H v (eE b m)) : ∃ t, v = .ref t ∧ H t = some (.tup [.int b, .int m]) := by
  cases h with
  | tup h t =>
    cases t with
    | cons x t => cases x; cases t with | cons x t => cases x; cases t; exact ⟨_, rfl, h⟩
theorem eE_td {H : Hp} {t : Addr} {b m : Int} (h : H t = some (.tup [.int b, .int m])) : Td H (.ref t) (Cs.eE b m) := .tup h (.cons (.int b) (.cons (.int m) .nil))
theorem strTd {H : Hp} {t : Addr} {z : Str} {v : V} {d : PyData} (h : H t = some (.tup [.str z, v])) (hz : PyData.strOk z = true) (hd : Td H v d) : Td H (.ref t) (.tuple [.str z, d]) := .tup h (.cons (.str z hz) (.cons hd .nil))
def rdF (n : Int) (r p e cl wy : Addr) : List (Str × V) := [("answers", .int n), ("_request", .ref r), ("_sealer", .ref p), ("_entry", .ref e), ("cells", .ref cl), ("_way", .ref wy)]
structure RdS where
  n : Nat
  b : Int
  m : Int
  cs : List PyData
  q : PyData
def RdAt (C : Addr) (H : Hp) (a p cl : Addr) (way : List Int) (s : RdS) : Prop := ∃ (dx r e wy : Addr) (vs : List V), H a = some (.ins C dx (rdF s.n r p e cl wy)) ∧ Td H (.ref r) s.q ∧ H e = some (.tup [.int s.b, .int s.m]) ∧ H cl = some (.lst vs) ∧ TdAll H vs s.cs ∧ H wy = some (.tup (way.map V.int))
/-- one answer to a talk that reads -/
def RStep (ds : List PyData) (way : List Int) (s : RdS) (d : PyData) (s' : RdS) : Prop :=
  (kn ds d s.m = false ∧ s' = ⟨s.n + 1, s.b, s.m, s.cs, rfQ s.b⟩) ∨
  (kn ds d s.m = true ∧ ∃ x us, d = .tuple (x :: us) ∧ us ≠ [] ∧ us.length ≤ 900 ∧ ((way.length < s.n + 1 ∧ s' = ⟨s.n + 1, s.b, s.m, s.cs ++ [d], dnQ (.tuple us)⟩) ∨
    ∃ k b m, way[s.n]? = some k ∧ 0 ≤ k ∧ us[k.toNat]? = some (eE b m) ∧ s' = ⟨s.n + 1, b, m, s.cs ++ [d], rdQ b⟩))
def spRdInit (C CSh : Addr) : Sp := fun vs H Q _ => ∃ (a dx sh p e : Addr) (b m f d w bl s i : Int), vs = [.ref a, .ref sh, .ref p, .ref e, .int i] ∧ H a = some (.ins C dx []) ∧ H e = some (.tup [.int b, .int m]) ∧ ShAt CSh H sh f d w bl s ∧ ShOk f d w bl s ∧ 0 ≤ i ∧
  ∀ cl H', H cl = none → RdAt C H' a p cl (wayV f d.toNat i) ⟨0, b, m, [], rdQ b⟩ → Fr [a] H H' → Q .non H'
def spRAcc (C : Addr) : Sp := fun vs H Q _ => ∃ (a dx t r p e cl wy : Addr) (n : Nat) (x : V) (us cs : List V) (way : List Int), vs = [.ref a, .ref t] ∧ H a = some (.ins C dx (rdF n r p e cl wy)) ∧ H t = some (.tup (x :: us)) ∧ us ≠ [] ∧ us.length ≤ 900 ∧ H cl = some (.lst cs) ∧ cs.length ≤ 900 ∧ H wy = some (.tup (way.map V.int)) ∧
  ((way.length < n ∧ ∀ u q H', H' cl = some (.lst (cs ++ [.ref t])) → H' q = some (.tup [.str "done", .ref u]) → H' u = some (.tup us) → Fr [cl] H H' → Q (.ref q) H') ∨
   ∃ k e' b m, 1 ≤ n ∧ way[n - 1]? = some k ∧ 0 ≤ k ∧ us[k.toNat]? = some (.ref e') ∧ H e' = some (.tup [.int b, .int m]) ∧ ∀ q H', H' a = some (.ins C dx (rdF n r p e' cl wy)) → H' cl = some (.lst (cs ++ [.ref t])) → H' q = some (.tup [.str "read", .int b]) → Fr [a, cl] H H' → Q (.ref q) H')
def spRdAns (P : Program) (w : World) (CS C : Addr) : Sp := fun vs H Q _ => ∃ (a p cl md tl : Addr) (way : List Int) (s s' : RdS) (v : V) (d : PyData) (ds : List PyData) (b0 : Int), vs = [.ref a, v] ∧ RdAt C H a p cl way s ∧ s.q = rdQ b0 ∧ SeA P w CS H p md tl ds ∧ Td H v d ∧ d.depth ≤ 60 ∧ nd d ≤ 200 ∧ s.cs.length ≤ 800 ∧ cl ≠ tl ∧ RStep ds way s d s' ∧
  ∀ H', RdAt C H' a p cl way s' → Fr [a, cl] H H' → Q .non H'
section
variable {P : Program} {w : World} {K : PySem.W.Frag} {mg : Str → Option Value} {base : Heap}
theorem Txt.TkR (T : Txt K mg) : TkD K T.C_ReadTalk := ⟨⟨T.cl_ReadTalk, T.na_ReadTalk_answers, T.na_ReadTalk__request⟩, T.na_ReadTalk__sealer, T.na_ReadTalk__entry⟩
theorem b_ReadTalk___init__ (T : Txt K mg) : Binds K T.d_ReadTalk___init__ p_ReadTalk___init__ [] := by
  obtain ⟨oc, od, an, osl, kV, doc, pm, ct, e, _⟩ := T.lk_ReadTalk___init__
  rw [e]
  exact .all fun us hl => match us, hl with | [_, _, _, _, _], _ => rfl
theorem ok_rdinit (T : Txt K mg) (TF : TxF P T) : FnOk P w K mg base CX0 4 T.f_ReadTalk___init__ T.d_ReadTalk___init__ p_ReadTalk___init__ (spRdInit T.C_ReadTalk T.C_Shape) := by
  have G_clinit : FnOk P w K mg base CX0 3 T.f_CellTalk___init__ T.d_CellTalk___init__ p_CellTalk___init__ (spClInit T.C_ReadTalk) := ok_clinit T TF T.TkR T.so_CellTalk___init___ReadTalk
  have G_Shape_way : FnOk P w K mg base CX0 1 T.f_Shape_way T.d_Shape_way p_Shape_way (spWay T.C_Shape) := ok_way T
  obtain ⟨oc, od, an, osl, kV, doc, pm, ct, e, lk, hcd⟩ := T.lk_ReadTalk___init__
  obtain ⟨cl, cld, csl, hcell⟩ := T.so_ReadTalk___init___ReadTalk.cell
  rw [e] at lk ⊢
  refine fn_ofA (C := T.C_ReadTalk) lk hcd sc_ReadTalk___init__ hcell (fun vs H Q E h => ?_) (fun A outer s H vs Q E hr h => ?_)
  · obtain ⟨a, dx, sh, p, e, b, m, f, d, w, bl, s, i, rfl, _⟩ := h
    rfl
  · obtain ⟨a, dx, sh, p, en, b, m, f, d, wn, bl, z, i, rfl, ha, he, hsh, hok, hi, k⟩ := h
    refine ⟨_, psa_super lk sc_ReadTalk___init__ T.so_ReadTalk___init___ReadTalk TF.hs_ReadTalk___init__ T.z_super G_clinit hr (b_CellTalk___init__ T) pass0 (E2 := E)
      (pa_cons (pv 2) (pa_cons (pv 3) pa_nil)) (psa_of (pss_cons (ps_fld (pv 0) (pe_lst pa_nil) rfl)
      (pss_one (ps_fld (pv 0) (pe_meth (pv 1) T.cl_Shape T.m_Shape_way G_Shape_way (hr.mono (by decide)) T.b_Shape_way .nil pass0 (pa_cons (pv 4) pa_nil)) rfl)))) (by decide) _ (fun _ => rfl) (fun _ => rfl) (fun _ => rfl) (fun _ => rfl), ?_⟩
    refine ⟨a, dx, [], rfl, ha, _, rfl, _, rfl, a, dx, p, en, b, m, rfl, ha, he, fun r dx' H1 hr0 ha1 hr1 F1 => ?_⟩
    have Q1 : Fr [a] H H1 := fun x o n e => F1 x o (fun z => n (List.mem_singleton.mpr z)) e
    refine ⟨Nat.zero_le _, fun cl hcl => ?_⟩
    have nca : cl ≠ a := ne_of_none ha1 hcl |>.symm
    refine ⟨_, rfl, a, T.C_ReadTalk, dx', _, rfl, by rw [upd_ne nca.symm]; exact ha1, T.cl_ReadTalk, T.na_ReadTalk_cells, (by show 4 < 1000; decide), ?_⟩
    obtain ⟨dxs, hsh0⟩ := hsh
    have nsa : sh ≠ a := ne_k hsh0 ha (ins_ne (by simp [shF]))
    have hcl0 : H cl = none := by
      cases e : H cl with
      | none => rfl
      | some o => rw [F1 _ _ nca e] at hcl; cases hcl
    have Q2 : Fr [a] H (upd (upd H1 cl (.lst [])) a (.ins T.C_ReadTalk dx' (putF "cells" (.ref cl) (clF r p en)))) := Q1.trans ((Fr.new hcl).trans (Fr.upd List.mem_cons_self))
    have hsh2 := Q2.at hsh0 (nm1 nsa)
    have ha2 : (upd (upd H1 cl (.lst [])) a (.ins T.C_ReadTalk dx' (putF "cells" (.ref cl) (clF r p en)))) a = some (.ins T.C_ReadTalk dx' (putF "cells" (.ref cl) (clF r p en))) := upd_same
    have hcl2 : (upd (upd H1 cl (.lst [])) a (.ins T.C_ReadTalk dx' (putF "cells" (.ref cl) (clF r p en)))) cl = some (.lst []) := by rw [upd_ne nca, upd_same]
    have hr2 : (upd (upd H1 cl (.lst [])) a (.ins T.C_ReadTalk dx' (putF "cells" (.ref cl) (clF r p en)))) r = some (.tup [.str "read", .int b]) := by
      rw [upd_ne (ne_k hr1 ha1 (by intro z; cases z)), upd_ne (ne_of_none hr1 hcl)]; exact hr1
    have he2 := Q2.at he (nm1 (ne_k he ha (by intro z; cases z)))
    show tSeq _ _ _ _ (upd (upd H1 cl (.lst [])) a (.ins T.C_ReadTalk dx' (putF "cells" (.ref cl) (clF r p en))))
    generalize (upd (upd H1 cl (.lst [])) a (.ins T.C_ReadTalk dx' (putF "cells" (.ref cl) (clF r p en)))) = H2 at *
    refine ⟨_, rfl, sh, dxs, _, rfl, hsh2, rfl, _, rfl, sh, f, d, wn, bl, z, i, rfl, ⟨dxs, hsh2⟩, hok, hi, fun wy H3 hwy S3 hwy3 => ?_⟩
    refine ⟨_, rfl, a, T.C_ReadTalk, dx', _, rfl, S3 _ _ ha2, T.cl_ReadTalk, T.na_ReadTalk__way, (by show 5 < 1000; decide), ?_⟩
    have K4 : TKeep H3 (upd H3 a (.ins T.C_ReadTalk dx' (rdF 0 r p en cl wy))) := (Fr.upd List.mem_cons_self).tk1 (NT.ins (S3 _ _ ha2))
    refine k cl _ hcl0 ⟨dx', r, en, wy, [], upd_same, (strTd (S3 _ _ hr2) (by decide +kernel) (.int b)).keep K4, K4 _ _ (S3 _ _ he2), ?_, .nil, K4 _ _ hwy3⟩ (Q2.trans ((Fr.same S3).trans (Fr.upd List.mem_cons_self)))
    rw [upd_ne nca]; exact S3 _ _ hcl2
end

section
variable {P : Program} {w : World} {K : PySem.W.Frag} {mg : Str → Option Value} {base : Heap}
theorem ok_racc (T : Txt K mg) : FnOk P w K mg base CX0 3 T.f_ReadTalk_accepted T.d_ReadTalk_accepted p_ReadTalk_accepted (spRAcc T.C_ReadTalk) := by
  have G_parts : FnOk P w K mg base CX0 1 T.f_parts T.d_parts p_parts spParts := ok_parts T
  have G_ReadTalk_reading : FnOk P w K mg base CX0 1 T.f_CellTalk_reading T.d_CellTalk_reading p_CellTalk_reading (spReading T.C_ReadTalk) := ok_reading T T.TkR
  refine T.F_ReadTalk_accepted.ok sc_ReadTalk_accepted (fun vs H Q E h => ?_) (fun cdv A outer s H vs Q E hr h => ?_)
  · obtain ⟨a, dx, t, r, p, e, cl, wy, n, x, us, cs, way, rfl, _⟩ := h
    rfl
  · obtain ⟨a, dx, t, r, p, e, cl, wy, n, x, us, cs, way, rfl, ha, ht, hne, hul, hcl, hcs, hwy, k⟩ := h
    refine ⟨_, (pss_cons (ps_expr (pe_bm PySem.F.plainAttrs_list PySem.F.slot_list_append PySem.F.type_list_append mt_append (pe_fld (pv 0) rfl) (pa_cons (pv 1) pa_nil)))
      (pss_cons (ps_if (pt_cmpR op_gt (pe_fld (pv 0) rfl) (pe_callB call_len_seq (by rfl) T.z_len PySem.boot_len (pa_cons (pe_fld (pv 0) rfl) pa_nil)) (nomark _)) (pss_one (ps_ret (pe_tup (pa_cons pe_str (pa_cons (pe_call G_parts (hr.mono (by decide)) rfl T.mg_parts T.F_parts.kp T.b_parts .nil pass0 (pa_cons (pv 1) pa_nil)) pa_nil))))) pss_nil)
      (pss_one (ps_ret (pe_meth (pv 0) T.cl_ReadTalk T.m_ReadTalk_reading G_ReadTalk_reading (hr.mono (by decide)) T.b_CellTalk_reading .nil pass0 (pa_cons (pe_ix ix_tup (pe_call G_parts (hr.mono (by decide)) rfl T.mg_parts T.F_parts.kp T.b_parts .nil pass0 (pa_cons (pv 1) pa_nil)) (pe_ix ix_tup (pe_fld (pv 0) rfl) (pe_op op_sub (pe_fld (pv 0) rfl) pe_int) (fun _ _ => rfl)) (fun _ _ => rfl)) pa_nil)))))), ?_⟩
    have nca : cl ≠ a := ne_k hcl ha (by intro z; cases z)
    have ntc : t ≠ cl := ne_k ht hcl (by intro z; cases z)
    have nwc : wy ≠ cl := ne_k hwy hcl (by intro z; cases z)
    have nta : t ≠ a := ne_k ht ha (by intro z; cases z)
    refine ⟨_, rfl, a, T.C_ReadTalk, dx, _, _, rfl, ha, T.cl_ReadTalk, T.na_ReadTalk_cells, rfl, .inl ⟨rfl, _, SqL.of hcl⟩, _, rfl, cl, _, _, rfl, rfl, hcl, small1000 (by omega), ?_⟩
    have ha1 : (upd H cl (.lst (cs ++ [.ref t]))) a = some (.ins T.C_ReadTalk dx (rdF n r p e cl wy)) := by rw [upd_ne nca.symm]; exact ha
    have ht1 : (upd H cl (.lst (cs ++ [.ref t]))) t = some (.tup (x :: us)) := by rw [upd_ne ntc]; exact ht
    have hwy1 : (upd H cl (.lst (cs ++ [.ref t]))) wy = some (.tup (way.map V.int)) := by rw [upd_ne nwc]; exact hwy
    have F1 : Fr [cl] H (upd H cl (.lst (cs ++ [.ref t]))) := Fr.upd List.mem_cons_self
    refine ⟨_, rfl, a, T.C_ReadTalk, dx, _, _, rfl, ha1, T.cl_ReadTalk, T.na_ReadTalk_answers, rfl, _, rfl, a, T.C_ReadTalk, dx, _, _, rfl, ha1, T.cl_ReadTalk, T.na_ReadTalk__way, rfl, wy, _, rfl, .inr (SqT.of hwy1), _, _, rfl, rfl, _, rfl, ?_⟩
    rw [List.length_map]
    rcases k with ⟨hn, q⟩ | ⟨k, e', b, m, n1, hk, k0, hu, he', q⟩
    · refine iteDT (by omega) ?_
      refine ⟨_, rfl, t, x, us, rfl, ht1, hne, hul, fun u hu => ⟨(by show 2 ≤ sizeLine; decide), fun z hz => ?_⟩⟩
      have nuz : u ≠ z := fun y => by rw [← y, upd_same] at hz; cases hz
      have nuc : cl ≠ u := fun y => by rw [← y, upd_same] at hu; cases hu
      have nzc : cl ≠ z := fun y => by rw [← y, upd_ne nuc, upd_same] at hz; cases hz
      exact q u z _ (by rw [upd_ne nzc, upd_ne nuc, upd_same]) upd_same (by rw [upd_ne nuz, upd_same]) (F1.trans ((Fr.new hu).trans (Fr.new hz)))
    · have hlt : n - 1 < way.length := (List.getElem?_eq_some_iff.mp hk).1
      refine iteDF (by omega) ?_
      refine ⟨_, rfl, a, dx, _, rfl, ha1, rfl, ?_⟩
      refine ⟨_, rfl, t, x, us, rfl, ht1, hne, hul, fun u hu2 => ?_⟩
      have S2 := Same.new (o := .tup us) hu2
      have hkk : (way.map V.int)[n - 1]? = some (.int k) := by rw [List.getElem?_map, hk]; rfl
      refine ⟨_, rfl, a, T.C_ReadTalk, dx, _, _, rfl, S2 _ _ ha1, T.cl_ReadTalk, T.na_ReadTalk__way, rfl, _, rfl, a, T.C_ReadTalk, dx, _, _, rfl, S2 _ _ ha1, T.cl_ReadTalk, T.na_ReadTalk_answers, rfl, _, _, rfl, rfl, ?_⟩
      refine ⟨wy, _, _, _, rfl, rfl, SqT.of (S2 _ _ hwy1), at_of (j := n - 1) (by omega) hkk, ?_⟩
      refine ⟨u, us, k, _, rfl, rfl, SqT.of upd_same, at_of (j := k.toNat) (by omega) hu, ?_⟩
      have nec : e' ≠ cl := ne_k he' hcl (by intro z; cases z)
      refine ⟨a, dx, e', _, b, m, rfl, S2 _ _ ha1, (by show 6 < 900; decide), S2 _ _ (F1.at he' (nm1 nec)), fun z hz => ?_⟩
      have nza : a ≠ z := fun y => by rw [← y, upd_same] at hz; cases hz
      have nuc : cl ≠ u := fun y => by rw [← y, upd_same] at hu2; cases hu2
      have nzc : cl ≠ z := fun y => by rw [← y, upd_ne nca, upd_ne nuc, upd_same] at hz; cases hz
      refine q z _ (by rw [upd_ne nza, upd_same]; rfl) (by rw [upd_ne nzc, upd_ne nca, upd_ne nuc, upd_same]) upd_same ?_
      exact ((F1.mono (fun y h => List.mem_cons_of_mem _ h)).trans ((Fr.new hu2).trans (Fr.upd List.mem_cons_self))).trans (Fr.new hz)
theorem ok_rdans (T : Txt K mg) : FnOk P w K mg base CX0 9 T.f_Talk_answer T.d_Talk_answer p_Talk_answer (spRdAns P w T.C_Sealer T.C_ReadTalk) := by
  have G1 : FnOk P w K mg base CX0 7 T.f_CellTalk_following T.d_CellTalk_following p_CellTalk_following (spClFol P w T.C_Sealer T.C_ReadTalk (spRAcc T.C_ReadTalk)) := ok_clfol T T.TkR T.m_ReadTalk_accepted T.b_ReadTalk_accepted (ok_racc T)
  refine (ok_ans0 T T.TkR.toTkC T.m_ReadTalk_has_ended T.m_ReadTalk_following T.b_CellTalk_following G1).imp ?_
  rintro vs H Q E ⟨a, p, cl, md, tl, way, s, s', v, d, ds, b0, rfl, ⟨dx, r, e, wy, cs, ha, hq, he, hcl, hcs, hwy⟩, eq0, hse, hv, hd, hn, hcl8, nct, st, k⟩
  have hcn := hcs.length
  rw [eq0] at hq
  obtain ⟨z, us, er, hr2⟩ : ∃ z us, z = Str.ofString "read" ∧ H r = some (.tup (.str z :: us)) := by
    cases hq with
    | tup h t => cases t with | cons x t => cases x; exact ⟨_, _, rfl, h⟩
  subst er
  have nca : cl ≠ a := ne_k hcl ha (by intro z; cases z)
  have nea : e ≠ a := ne_k he ha (by intro z; cases z)
  have nec : e ≠ cl := ne_k he hcl (by intro z; cases z)
  have nwa : wy ≠ a := ne_k hwy ha (by intro z; cases z)
  have nwc : wy ≠ cl := ne_k hwy hcl (by intro z; cases z)
  refine ⟨a, dx, rdF s.n r p e cl wy, s.n, r, _, us, v, rfl, ⟨ha, rfl, rfl, rfl, rfl, rfl, rfl, by show 6 < 900; decide⟩, hr2, by decide +kernel, fun H1 S1 R hR E2 => ?_⟩
  have F2 : Fr [a] H (upd H1 a (.ins T.C_ReadTalk dx (putF "answers" (.int ((s.n : Int) + 1)) (rdF s.n r p e cl wy)))) := (Fr.same S1).trans (Fr.upd List.mem_cons_self)
  have ha2 : (upd H1 a (.ins T.C_ReadTalk dx (putF "answers" (.int ((s.n : Int) + 1)) (rdF s.n r p e cl wy)))) a = some (.ins T.C_ReadTalk dx (rdF ((s.n + 1 : Nat) : Int) r p e cl wy)) := upd_same
  have nI := hse.nI ha (by show 6 ≠ 2; decide)
  have hse2 := hse.fr F2 (fun y hy => by rw [List.mem_singleton.mp hy]; exact NT.ins ha) ⟨nm1 nI.1, nm1 nI.2.1, nm1 nI.2.2⟩
  have tk2 : TKeep H _ := F2.tk1 (NT.ins ha)
  show spClFol P w T.C_Sealer T.C_ReadTalk (spRAcc T.C_ReadTalk) [.ref a, v] (upd H1 a (.ins T.C_ReadTalk dx (putF "answers" (.int ((s.n : Int) + 1)) (rdF s.n r p e cl wy)))) R E2
  generalize (upd H1 a (.ins T.C_ReadTalk dx (putF "answers" (.int ((s.n : Int) + 1)) (rdF s.n r p e cl wy)))) = H2 at *
  have hcs2 := hcs.keep tk2
  refine ⟨a, dx, p, md, tl, e, _, s.b, s.m, v, d, ds, rfl, ha2, rfl, rfl, rfl, tk2 _ _ he, hse2, hv.keep tk2, hd, hn, fun e0 H3 t S3 ht => ?_, fun e0 H3 S3 E3 => ?_⟩
  · -- refused
    have nta : t ≠ a := fun y => by rw [y, S3 _ _ ha2] at ht; cases ht
    refine hR _ _ dx _ (by rw [upd_ne nta.symm]; exact S3 _ _ ha2) (by show 6 < 1000; decide) ?_
    have F4 : Fr [a] H (upd (upd H3 t (.tup [.str "refused", .int s.b])) a (.ins T.C_ReadTalk dx (rdF ((s.n + 1 : Nat) : Int) t p e cl wy))) := F2.trans ((Fr.same S3).trans ((Fr.new ht).trans (Fr.upd List.mem_cons_self)))
    have tk4 := F4.tk1 (NT.ins ha)
    rcases st with ⟨_, rfl⟩ | ⟨e1, _⟩
    · refine k _ ⟨dx, t, e, wy, cs, upd_same, ?_, tk4 _ _ he, F4.at hcl (nm1 nca), hcs.keep tk4, tk4 _ _ hwy⟩ (F4.mono fun y h => by rw [List.mem_singleton.mp h]; exact List.mem_cons_self)
      exact strTd (by rw [upd_ne nta, upd_same]) (by decide +kernel) (.int _)
    · rw [e0] at e1; cases e1
  · rcases st with ⟨e1, _⟩ | ⟨_, x, us', rfl, une, ul, st⟩
    · rw [e0] at e1; cases e1
    obtain ⟨t, x', vs, rfl, htv, hxv, hvs⟩ : ∃ t x' vs, v = .ref t ∧ H t = some (.tup (x' :: vs)) ∧ Td H x' x ∧ TdAll H vs us' := by
      cases hv with
      | tup h q => cases q with | cons q1 q2 => exact ⟨_, _, _, rfl, h, q1, q2⟩
    have hvl := hvs.length
    have vne : vs ≠ [] := fun y => by rw [y] at hvl; exact une (List.length_eq_zero_iff.mp hvl.symm)
    have F3 : Fr [a] H H3 := F2.trans (Fr.same S3)
    have ha3 := S3 _ _ ha2
    have hcl3 := F3.at hcl (nm1 nca)
    have tk3 : TKeep H H3 := F3.tk1 (NT.ins ha)
    refine ⟨a, dx, t, r, p, e, cl, wy, s.n + 1, x', vs, cs, way, rfl, ha3, tk3 _ _ htv, vne, by omega, hcl3, by omega, tk3 _ _ hwy, ?_⟩
    rcases st with ⟨hw, rfl⟩ | ⟨k', b, m, hk, k0, hu, rfl⟩
    · refine .inl ⟨hw, fun u q H4 c1 c2 c3 F4 => ?_⟩
      have ha4 := F4.at ha3 (nm1 nca.symm)
      refine hR _ _ dx _ ha4 (by show 6 < 1000; decide) ?_
      have F5 : Fr [a, cl] H (upd H4 a (.ins T.C_ReadTalk dx (rdF ((s.n + 1 : Nat) : Int) q p e cl wy))) := (F3.mono (fun y h => by rw [List.mem_singleton.mp h]; exact List.mem_cons_self)).trans ((F4.mono (fun y h => List.mem_cons_of_mem _ h)).trans (Fr.upd List.mem_cons_self))
      have tk5 := F5.tk2 (NT.ins ha) (NT.lst hcl)
      have tk45 : TKeep H4 (upd H4 a (.ins T.C_ReadTalk dx (rdF ((s.n + 1 : Nat) : Int) q p e cl wy))) := (Fr.upd List.mem_cons_self).tk1 (NT.ins ha4)
      refine k _ ⟨dx, q, e, wy, cs ++ [.ref t], upd_same, ?_, tk5 _ _ he, by rw [upd_ne nca]; exact c1, (hcs.keep tk5).snoc' (hv.keep tk5), tk5 _ _ hwy⟩ F5
      exact strTd (tk45 _ _ c2) (by decide +kernel) (.tup (tk45 _ _ c3) (hvs.keep tk5))
    · obtain ⟨ve, hve, tve⟩ : ∃ ve, vs[k'.toNat]? = some ve ∧ Td H ve (eE b m) := by
        have hlt : k'.toNat < vs.length := by rw [hvl]; exact (List.getElem?_eq_some_iff.mp hu).1
        obtain ⟨d', e1, e2⟩ := hvs.get (List.getElem?_eq_getElem hlt)
        rw [hu] at e1
        cases e1
        exact ⟨_, List.getElem?_eq_getElem hlt, e2⟩
      obtain ⟨e', rfl, he'⟩ := tve.eE
      refine .inr ⟨k', e', b, m, by omega, hk, k0, hve, tk3 _ _ he', fun q H4 c0 c1 c2 F4 => ?_⟩
      refine hR _ _ dx _ c0 (by show 6 < 1000; decide) ?_
      have F5 : Fr [a, cl] H (upd H4 a (.ins T.C_ReadTalk dx (rdF ((s.n + 1 : Nat) : Int) q p e' cl wy))) := (F3.mono (fun y h => by rw [List.mem_singleton.mp h]; exact List.mem_cons_self)).trans (F4.trans (Fr.upd List.mem_cons_self))
      have tk5 := F5.tk2 (NT.ins ha) (NT.lst hcl)
      have tk45 : TKeep H4 (upd H4 a (.ins T.C_ReadTalk dx (rdF ((s.n + 1 : Nat) : Int) q p e' cl wy))) := (Fr.upd List.mem_cons_self).tk1 (NT.ins c0)
      refine k _ ⟨dx, q, e', wy, cs ++ [.ref t], upd_same, ?_, tk5 _ _ he', by rw [upd_ne nca]; exact c1, (hcs.keep tk5).snoc' (hv.keep tk5), tk5 _ _ hwy⟩ F5
      exact strTd (tk45 _ _ c2) (by decide +kernel) (.int _)
end

/-! ### sets of ints: comprehensions, sorted of any number -/
section
open PySem PySem.Spec PyProof.Rows L2
abbrev freshSet (w : World) : Obj := { cls := .type "set", dict := none, data := .set #[] 0 (.fresh 0 0 (!w.params.followText "set-order")) }
/-- reading: nw what stands for the new set at D; r the rule of set.add -/
def tSG (nw : Addr → HO) (r : V → List V → Hp → VK → Prop) (wi : TI) (g : TG) (te : TE) (vs : List Nat) : TE := fun σ H Q => wi σ H fun J H1 => ∀ D, H1 D = none → ∃ W : Nat → Nat → Hp → Prop, (∃ m, W 0 m (upd H1 D (nw D))) ∧ ∀ i m H, W i m H →
  (J.stop i H ∧ Q (.ref D) H) ∨ (J.go i H ∧ ∃ Nx : Hp → Prop, (∀ H', Nx H' → ∃ m', m' < m ∧ W (i + 1) m' H') ∧ ∀ x H', J.yld i H x H' → g x (wipe σ vs) H' fun σ2 H2 => wipe σ2 vs = wipe σ vs ∧ te σ2 H2 fun y H4 => r (.ref D) [y] H4 fun _ H5 => Nx H5)
variable {X : Cx}
theorem pe_scG {nw : Addr → HO} {r : V → List V → Hp → VK → Prop} {elt tg iter : Expr} {scope : Scope} {own : List (PySem.Str × Nat)} {pos : Pos} {wi : TI} {g : TG} {te : TE}
    (hnw : ∀ (H : Hp) (h : Heap) (D : Addr), h.get? D = some (freshSet X.w) → ObjOk X.prog X.w H h D (nw D))
    (hc : X.calm = true) (hN : X.N.Nodup) (hi : PI X tg iter wi) (ok : BlkOk X.N X.env.scope scope own)
    (hg : ∀ (s : Shared) (H : Hp) (C : Addr) (cl : List (PySem.Str × Addr)) (fp : List Addr), PG (X.blk s H scope (compEnvC scope cl C X.env) fp) tg g)
    (he : ∀ (s : Shared) (H : Hp) (C : Addr) (cl : List (PySem.Str × Addr)) (fp : List Addr), PE (X.blk s H scope (compEnvC scope cl C X.env) fp) elt te)
    (hr : ∀ (s : Shared) (H : Hp) (C : Addr) (cl : List (PySem.Str × Addr)) (fp : List Addr), MtR (X.blk s H scope (compEnvC scope cl C X.env) fp) "set.add" r)
    (hs : ∀ x, foldedSetIterable iter X.env x = pure x := by intro _; rfl) : PE X (.SetComp elt [⟨tg, iter, [], 0⟩] scope pos) (tSG nw r wi g te (own.map (·.2))) := by
  refine ⟨fun pins s σ H Q I h => ?_⟩
  rw [PpSet.eval_SetComp]
  have cellOf : ∀ y ∈ scope.names, y.2 = .free → ∃ c, X.env.cells.lookup y.1 = some c := fun y hy e => (ok.free y hy e).elim (fun k => I.ok.has _ (.inl k)) fun k => I.ok.has _ (.inr k)
  refine wpAny_comprehension_free (use := none) rfl hs (closure_ok cellOf) ok.kind (fun y hy e => by rw [ok.uniq y hy, e]) (thn (hi.run pins s σ H _ I h) fun xv s1 hx => thn hx fun itv s2 h2 => ?_)
  obtain ⟨it, fp, tn, J, H2, e, I2, T, st2, f2, q⟩ := h2
  subst e
  refine PpSet.newSet_ok (newEnv_comp ?_)
  obtain ⟨D, hD⟩ : ∃ D, s2.heap.objs.size = D := ⟨_, rfl⟩
  rw [hD]
  have hDn : H2 D = none := I2.hok.fresh (Nat.le_of_eq hD)
  obtain ⟨W, ⟨m0, w0⟩, turn⟩ := q D hDn
  obtain ⟨s3, hs3⟩ : ∃ s3 : Shared, s3 = { s2 with heap := s2.heap.push (freshSet X.w) } := ⟨_, rfl⟩
  have h3 : s3.heap = s2.heap.push (freshSet X.w) := by rw [hs3]
  obtain ⟨H3, hH3⟩ : ∃ H3, H3 = upd H2 D (nw D) := ⟨_, rfl⟩
  rw [← hH3] at w0
  have I3 : Inv X pins σ H3 s3 := by
    rw [hs3, hH3]
    exact I2.laid (t' := s2.toks) (fun b o e => Heap.get?_push_of_some _ e) (Nat.le_of_eq hD) (hnw _ _ D (by rw [← hD]; exact Heap.get?_push_size _ rfl))
  have f3 : ∀ b ∈ fp, FpOk X pins H3 b ∧ b < s3.heap.objs.size := fun b hb => by
    obtain ⟨o, e, _⟩ := T.obj _ _ st2 b hb
    have lt := Heap.lt_size e
    refine ⟨⟨?_, (f2 b hb).2⟩, by rw [h3, Heap.size_push]; exact Nat.lt_succ_of_lt lt⟩
    rw [hH3, upd_ne (by rw [← hD]; exact Nat.ne_of_lt lt)]
    exact (f2 b hb).1
  have st3 : tn 0 s3.heap := T.keep _ _ _ st2 fun b _ o e => by rw [h3]; exact Heap.get?_push_of_some _ e
  have I4 := block_start I3 ok hN f3
  have pg := hg s3 H3 s3.heap.objs.size (cellsFrom (s3.heap.objs.size + 1) scope.names (cloFrom X.env.cells scope.names [])) fp
  have pe := he s3 H3 s3.heap.objs.size (cellsFrom (s3.heap.objs.size + 1) scope.names (cloFrom X.env.cells scope.names [])) fp
  have pa := hr s3 H3 s3.heap.objs.size (cellsFrom (s3.heap.objs.size + 1) scope.names (cloFrom X.env.cells scope.names [])) fp
  rw [← hs3]
  show codeAny _ _ (.compStart (.SetComp elt [⟨tg, iter, [], 0⟩] scope pos) 0 (.ref it) (.ref D) (compEnvC scope (cellsFrom (s3.heap.objs.size + 1) scope.names (cloFrom X.env.cells scope.names [])) s3.heap.objs.size X.env))
    (compPost (model X.prog X.w) X.A X.xe none (EP X pins σ Q) (.ref D) s3.heap.objs.size) { s3 with heap := pushCells (s3.heap.push { cls := .type "dict", data := .dict #[] }) scope.names }
  obtain ⟨ce, hce⟩ : ∃ ce, compEnvC scope (cellsFrom (s3.heap.objs.size + 1) scope.names (cloFrom X.env.cells scope.names [])) s3.heap.objs.size X.env = ce := ⟨_, rfl⟩
  rw [hce] at I4 pg pe pa ⊢
  have cL : ce.locals = s3.heap.objs.size := by subst hce; rfl
  obtain ⟨s4, hs4⟩ : ∃ s4 : Shared, ({ s3 with heap := pushCells (s3.heap.push { cls := .type "dict", data := .dict #[] }) scope.names } : Shared) = s4 := ⟨_, rfl⟩
  rw [hs4] at I4 ⊢
  have st4 : tn 0 s4.heap := T.keep _ _ _ st3 fun b _ o e => by rw [← hs4]; exact pushCells_keeps _ _ _ _ (Heap.get?_push_of_some _ e)
  have away : ∀ {σ' : L2.St} {H' : Hp} {s' : Shared}, Inv (X.blk s3 H3 scope ce fp) [] σ' H' s' → (∀ b ∈ fp, H' b = none) → ∀ b ∈ fp, FpOk (X.blk s3 H3 scope ce fp) [] H' b := fun {σ' H' s'} J' hn b hb =>
    ⟨hn b hb, (J'.ok.exf b hb).1, J'.ok.exfs b hb, .inl hb, fun x c e => (J'.ok.exf b hb).2 x c e, fun p hp => absurd (show p ∈ ([] : List (Addr × Obj)) ++ [] from hp) (by simp)⟩
  have loop : codeAny (model X.prog X.w) X.A (.compLoop (.SetComp elt [⟨tg, iter, [], 0⟩] scope pos) 0 (.ref it) (.ref D) ce) (compPost (model X.prog X.w) X.A X.xe none (EP X pins σ Q) (.ref D) s3.heap.objs.size) s4 := by
    refine PpSet.compLoopS_any (fun n s' => ∃ i H', Inv (X.blk s3 H3 scope ce fp) [] (wipe σ (own.map (·.2))) H' s' ∧ tn i s'.heap ∧ (∀ b ∈ fp, H' b = none) ∧ W i n H') (fun n s5 hI => ?_) m0 ⟨0, H3, I4, st4, fun b hb => (f3 b hb).1.1, w0⟩
    obtain ⟨i, H5, I5, st5, n5, w5⟩ := hI
    rcases turn i n H5 w5 with ⟨stop, qq⟩ | ⟨go, Nx, hNx, step⟩
    · refine thnF (T.done (X.blk s3 H3 scope ce fp) rfl rfl rfl hc i [] s5 _ H5 (fun _ _ => False) I5 (away I5 n5) st5 stop) fun r6 s6 ⟨hr6, I6⟩ => ?_
      subst hr6
      have I7 : Inv X pins σ H5 s6 := I3.call' (ch := fp) I6.os I6.base I6.hok I6.bare fun b hb => ⟨(f3 b hb).1.2.2.2.1, (f3 b hb).1.2.1, (f3 b hb).1.2.2.2.2.1, (f3 b hb).1.2.2.2.2.2⟩
      have nC : H5 s3.heap.objs.size = none := cL ▸ (show H5 ce.locals = none from I6.free)
      obtain ⟨mm, hn, _⟩ := I6.loc
      have hn : s6.heap.Ns s3.heap.objs.size mm := cL ▸ (show s6.heap.Ns ce.locals mm from hn)
      refine ⟨mm, hn, fun h'' sb => ?_⟩
      obtain ⟨g0, g1, g2, g3, g4, g5⟩ := I3.fpOk (Nat.le_refl _) nC
      exact ⟨.ref D, H5, I7.turned (t' := s6.toks) (fun b o hb e => (sb.2 b hb).trans e) g0 g1 g3 g4 g5, rfl, qq⟩
    · refine thnF (T.item (X.blk s3 H3 scope ce fp) rfl rfl rfl hc i [] s5 _ H5 (fun _ _ => False) I5 (away I5 n5) st5 go) fun r6 s6 ⟨u, hr6, h6⟩ => ?_
      subst hr6
      refine thnF h6 fun _ s7 ⟨x, H7, I7, r7, y7, st7, n7⟩ => ?_
      refine thnF (pg.run _ s7 _ H7 x u _ (I7.pinned (away I7 n7) (T.obj _ _ st7)) r7 (step x H7 y7)) fun _ s8 ⟨σ8, H8, I8, hw8, q8⟩ => ?_
      show wpAny _ _ (pure true) _ _ s8
      refine wpAny_pure ?_
      simp only [if_true]
      refine thnF (pe.run _ s8 σ8 H8 _ I8 q8) fun z s10 ⟨yv, H10, I10, r10, qr⟩ => ?_
      refine thnF (pa _ s10 σ8 H10 (.ref D) [yv] (.ref D) [z] _ I10 rfl (.cons r10 .nil) qr) fun _ s' ⟨v9, H', I', _, nx⟩ => ?_
      obtain ⟨m', hm, w'⟩ := hNx H' nx
      have stay : ∀ b ∈ fp, ∀ o, s7.heap.get? b = some o → s'.heap.get? b = some o ∧ H' b = none := fun b hb o e => by
        have z := I'.pin (b, o) (List.mem_append_right _ (List.mem_append_right _ (mem_pinsAt hb e)))
        exact ⟨z.1, z.2.1⟩
      refine ⟨m', hm, i + 1, H', (I'.unpinned (pins := [])).weak (by rw [← hw8, wipe_length]) (fun j v e => (wipe_some (hw8 ▸ e)).1), T.keep _ _ _ st7 fun b hb o e => (stay b hb o e).1, fun b hb => ?_, w'⟩
      obtain ⟨o, e, _⟩ := T.obj _ _ st7 b hb
      exact (stay b hb o e).2
  exact PpSet.codeAny_compStart_set loop (T.self X.A 0 _ _ _ st4 loop)
/-- over a list that stands still -/
theorem sg_list {nw : Addr → HO} {r : V → List V → Hp → VK → Prop} {K : PySem.W.Frag} {a : Addr} {xs : List V} {g : TG} {te : TE} {vs : List Nat} {σ : L2.St} {H1 : Hp} {D : Addr} {Qd : Hp → Prop} (Pv : Nat → Hp → Prop) (h0 : Pv 0 (upd H1 D (nw D)))
    (hl : ∀ i H, i ≤ xs.length → Pv i H → SqL K H a xs)
    (hs : ∀ i x H, xs[i]? = some x → Pv i H → g x (wipe σ vs) H fun σ2 H2 => wipe σ2 vs = wipe σ vs ∧ te σ2 H2 fun y H4 => r (.ref D) [y] H4 fun _ H5 => Pv (i + 1) H5) (hd : ∀ H, Pv xs.length H → Qd H) :
    ∃ W : Nat → Nat → Hp → Prop, (∃ m, W 0 m (upd H1 D (nw D))) ∧ ∀ i m H, W i m H →
      ((Itl K a).stop i H ∧ Qd H) ∨ ((Itl K a).go i H ∧ ∃ Nx : Hp → Prop, (∀ H', Nx H' → ∃ m', m' < m ∧ W (i + 1) m' H') ∧ ∀ x H', (Itl K a).yld i H x H' → g x (wipe σ vs) H' fun σ2 H2 => wipe σ2 vs = wipe σ vs ∧ te σ2 H2 fun y H4 => r (.ref D) [y] H4 fun _ H5 => Nx H5) := by
  refine ⟨fun i m H => m = xs.length - i ∧ i ≤ xs.length ∧ Pv i H, ⟨xs.length, (Nat.sub_zero _).symm, Nat.zero_le _, h0⟩, fun i m H ⟨em, hi, p⟩ => ?_⟩
  subst em
  have q := hl i H hi p
  rcases Nat.lt_or_eq_of_le hi with hlt | rfl
  · refine .inr ⟨⟨xs, xs[i], q, List.getElem?_eq_getElem hlt⟩, Pv (i + 1), fun H' p' => ⟨xs.length - (i + 1), by omega, rfl, hlt, p'⟩, fun x H' ⟨e, y⟩ => ?_⟩
    subst e
    exact hs i x _ (y xs q) p
  · exact .inl ⟨⟨xs, q, Nat.le_refl _⟩, hd H p⟩

theorem pg_tupK {X : Cx} {K : PySem.W.Frag} (eK : X.K = K) {es : List Expr} {k : Nat} {t : TGs} {n : Nat} {pos : Pos} (hc : X.calm = true) (h : PGs X es t)
    (hn : (assignEach es X.env).length = n := by rfl) (hst : (assignEach es X.env).findIdx? (·.1) = none := by rfl) : PG X (.Tuple es k pos) (gTup K n t) := by
  subst eK
  exact pg_tup hc h hn hst
theorem mt_saddB {X : Cx} (s : Shared) (H : Hp) (scope : Scope) (ce : Env) (fp : List Addr) : MtR (X.blk s H scope ce fp) "set.add" (rSAdd X.w) := mt_sadd (X := X.blk s H scope ce fp)
theorem setR_at {w : World} {h : Heap} {a : Addr} (e : h.get? a = some (freshSet w)) : SetR w h a (fun _ => false) 0 := by
  refine ⟨_, #[], 0, _, e, ⟨rfl, rfl, rfl⟩, rfl, fun x hx => (by cases hx), List.nodup_nil, fun k => ⟨fun z => (by cases z), fun z => (by cases z)⟩, (by unfold scanBound; decide), rfl, rfl, List.Pairwise.nil, ?_⟩
  show _ ∨ (!w.params.followText "set-order") = true
  cases w.params.followText "set-order"
  · exact .inr rfl
  · exact .inl rfl
theorem setO_freshG {P : Program} {w : World} (H : Hp) (h : Heap) (D : Addr) (e : h.get? D = some (freshSet w)) : ObjOk P w H h D (SetO w D (fun _ => false) 0) := setO_new (setR_at e)
/-- sorted(a set of ints), any number of them -/
theorem sorted_setI {P : Program} {w : World} {A : Around} {E : Value → Shared → Prop} {s : Shared} {a : Addr} {S : Int → Bool} {n : Nat} {Q : Value → Shared → Prop} (R : SetR w s.heap a S n) (hh : A.handled = none)
    (hQ : ∀ s' p (out : Array Value) (c : Nat) (ns : List Int), (∀ b o, s.heap.get? b = some o → s'.heap.get? b = some o) → s'.gens = s.gens → s'.os = s.os → s.heap.objs.size ≤ p →
      s'.heap.get? p = some (seqObj "list" out c) → IntsAre out.toList ns → ns.Pairwise (· < ·) → (∀ k, k ∈ ns ↔ S k = true) → ns.length = n → Q (.ref p) s') :
    wpAny (model P w) A (call (.builtin "sorted") [.ref a]) Q E s := by
  obtain ⟨o, es, ep, t, ho, hex, hd, g, nd, hm, hb, hf, hn, hr, hl⟩ := R
  refine Calls.call_function_entry kind_sorted plain_sorted entry_sorted (args_sorted1 _) ?_
  unfold Builtin.«sorted»
  refine wpAny_bind (m := checkCount "sorted" 1 1 _) (wpAny_pure ?_)
  refine wpAny_bind (collect_set (A := A.in1) hh ⟨o, ho, hex.1, hd⟩ hf hb hr hl fun s1 vs k1 hz g1 o1 pm => ?_)
  have hvl : vs.length = n := by rw [pm.length_eq, List.length_map, Array.length_toList]; exact hn
  have hb2 : n < 4096 := by rw [← hn]; exact hb
  have hI : IntsAre vs (vs.map Builtin.Re.reRawOf) := ints_of vs fun v hv => by
    obtain ⟨e, he, q⟩ := List.mem_map.mp (pm.mem_iff.mp hv)
    obtain ⟨k, tk, h1, _⟩ := g e he
    exact ⟨k, tk, by rw [← q]; exact h1⟩
  have pk : (vs.map Builtin.Re.reRawOf).Perm (es.toList.map keyOf) := by
    have q := pm.map Builtin.Re.reRawOf
    rw [List.map_map] at q
    exact q
  refine wpAny_bind (wpAny_newList ?_ (by rw [hvl, sizeLine_eq]; omega))
  have hoL : (s1.heap.push (seqObj "list" vs.toArray 0)).get? s1.heap.objs.size = some (seqObj "list" vs.toArray 0) := Heap.get?_push_size _ rfl
  refine wpAny_bind (wpAny_holding (wpAny_call_entry slot_list_sort ⟨_, hoL, rfl⟩ entry_list_sort (SrtO.list_sort_ord SrtO.swo_int hoL (by rw [hvl, sizeLine_eq]; omega) (fun h2 => SrtO.ints_sortable hI h2) fun out h1 h2 => ⟨_, rfl, ?_⟩) (args_list_sort _)))
  obtain ⟨a1, a2, a3⟩ := SrtO.ints_out hI h1 h2
  obtain ⟨c, hc⟩ := sortedHeap_at (vs := vs) (out := out.toArray) hoL
  have pn : (out.map SrtO.iv).Perm (es.toList.map keyOf) := a2.trans pk
  refine wpAny_pure ⟨_, rfl, hQ _ s1.heap.objs.size out.toArray c (out.map SrtO.iv) (fun b u e => ?_) g1 o1 hz hc a1 (lt_of_le_nodup _ a3 (pn.nodup_iff.mpr nd)) (fun k => by rw [pn.mem_iff, ← hm k]) ?_⟩
  · have q := k1 b u e
    have hlt := Heap.lt_size q
    show (sortedHeap (s1.heap.push (seqObj "list" vs.toArray 0)) s1.heap.objs.size vs out.toArray).get? b = some u
    rw [sortedHeap_old (Nat.ne_of_lt hlt) (by rw [size_push']; exact Nat.lt_succ_of_lt hlt)]
    exact Heap.get?_push_of_some _ q
  · rw [pn.length_eq, List.length_map, Array.length_toList]; exact hn
def rSortedSetI (w : World) : List V → Hp → VK → Prop := fun vs H Q => ∃ (a : Addr) (S : Int → Bool) (n : Nat), vs = [V.ref a] ∧ H a = some (SetO w a S n) ∧
  ∀ (ns : List Int) (p : Addr), ns.Pairwise (· < ·) → (∀ k : Int, k ∈ ns ↔ S k = true) → ns.length = n → H p = none → Q (.ref p) (upd H p (.lst (ns.map V.int)))
theorem cr_sortedSetI {X : Cx} (hc : X.calm = true) : CallR X (.builtin "sorted") (rSortedSetI X.w) := by
  intro pins s σ H vs us Q I r h
  obtain ⟨a, S, n, rfl, ha, q⟩ := h
  have R := setO_get I ha
  rw [Vals.ref1 r]
  have hb : n < 4096 := by
    obtain ⟨o, es, ep, t, ho, hex, hd, g, nd, hm, hb, hf, hn, _⟩ := id R
    rw [← hn]; exact hb
  refine sorted_setI R (I.ok.hd hc) fun s' p out c ns k g o hp hg hi hs hm hl => ?_
  have hlen : (ns.map V.int).length ≤ sizeLine := by rw [List.length_map, hl, sizeLine_eq]; omega
  have hn : H p = none := I.hok.fresh hp
  have J : Inv X pins σ (upd H p (.lst (ns.map V.int))) { s with heap := s'.heap, gens := s'.gens, drawn := s'.drawn, toks := s'.toks } :=
    I.call (ch := []) (Un.laid k hp hn) (I.hok.laid k hp ⟨hlen, out.toList, c, vals_of_ints hi, hg⟩) (by rw [g]; exact I.bare) (fun _ z => nomatch z)
  have e : s' = { s with heap := s'.heap, gens := s'.gens, drawn := s'.drawn, toks := s'.toks } := by
    cases s'
    cases s
    cases o
    rfl
  rw [e]
  exact ⟨.ref p, _, J, rfl, q ns p hs hm hl hn⟩
end

/-! ### ScanTalk: notes -/
abbrev Ent := Int × Int
def kE (e : Ent) : List Key := [.inl e.1, .inl e.2]
def eT (e : Ent) : PyData := eE e.1 e.2
def stK (st : List (Ent × Nat)) : List (List Key × V) := st.map fun x => (kE x.1, .int (x.2 : Nat))
def lvl (st : List (Ent × Nat)) (e : Ent) : Option Nat := (st.find? fun x => decide (x.1 = e)).map (·.2)
def note1 (l : Nat) (st : List (Ent × Nat)) (e : Ent) : List (Ent × Nat) := if (lvl st e).isSome then st else st ++ [(e, l)]
def noteS (st : List (Ent × Nat)) (es : List Ent) (l : Nat) : List (Ent × Nat) := es.foldl (note1 l) st
theorem kE_inj {x e : Ent} : kE x = kE e ↔ x = e := by
  obtain ⟨a, b⟩ := x
  obtain ⟨c, d⟩ := e
  simp [kE]
theorem stK_val (e : Ent) : ∀ st : List (Ent × Nat), valV (stK st) (kE e) = (lvl st e).map fun n => V.int (n : Nat)
  | [] => rfl
  | x :: st => by
    have ih := stK_val e st
    by_cases h : x.1 = e
    · rw [show stK (x :: st) = (kE x.1, V.int (x.2 : Nat)) :: stK st from rfl, valV_pos (by rw [h])]
      simp [lvl, h]
    · rw [show stK (x :: st) = (kE x.1, V.int (x.2 : Nat)) :: stK st from rfl, valV_neg (fun z => h (kE_inj.mp z)), ih]
      simp [lvl, h]
theorem putK_new {κ : Type} [DecidableEq κ] {kvs : List (κ × V)} {k : κ} {v : V} (h : valV kvs k = none) : putK kvs k v = kvs ++ [(k, v)] := by
  unfold putK
  rw [if_neg]
  rw [valV_any, h]
  exact Bool.false_ne_true
theorem note1_len (l : Nat) (st : List (Ent × Nat)) (e : Ent) : (note1 l st e).length ≤ st.length + 1 := by
  unfold note1
  split
  · omega
  · simp
theorem noteS_snoc (st : List (Ent × Nat)) (es : List Ent) (e : Ent) (l : Nat) : noteS st (es ++ [e]) l = note1 l (noteS st es l) e := by
  unfold noteS
  rw [List.foldl_append]; rfl
theorem noteS_len (l : Nat) : ∀ (es : List Ent) (st : List (Ent × Nat)), (noteS st es l).length ≤ st.length + es.length
  | [], st => by simp [noteS]
  | e :: es, st => by
    have := noteS_len l es (note1 l st e)
    have := note1_len l st e
    simp only [noteS, List.foldl_cons, List.length_cons] at *
    omega
def scF (n : Int) (r p e : Addr) (dep : Int) (lv en : Addr) : List (Str × V) := [("answers", .int n), ("_request", .ref r), ("_sealer", .ref p), ("_entry", .ref e), ("_depth", .int dep), ("_levels", .ref lv), ("_entries", .ref en)]
/-- the entries that are noted, as they stand -/
def StAt (H : Hp) (lv en : Addr) (st : List (Ent × Nat)) : Prop := ∃ ents, H lv = some (.dT (stK st)) ∧ H en = some (.lst ents) ∧ TdAll H ents (st.map fun x => eT x.1)
def spNote (C : Addr) : Sp := fun vs H Q _ => ∃ (a dx t r p e lv en : Addr) (n dep : Int) (l : Nat) (us : List V) (es : List Ent) (st : List (Ent × Nat)), vs = [.ref a, .ref t, .int (l : Nat)] ∧ H a = some (.ins C dx (scF n r p e dep lv en)) ∧ H t = some (.tup us) ∧ TdAll H us (es.map eT) ∧
  StAt H lv en st ∧ st.length + es.length ≤ 900 ∧ ∀ H', StAt H' lv en (noteS st es l) → Fr [lv, en] H H' → Q .non H'
theorem StAt.nt {H : Hp} {lv en : Addr} {st : List (Ent × Nat)} (h : StAt H lv en st) : NT H lv ∧ NT H en := by
  obtain ⟨_, h1, h2, _⟩ := h
  exact ⟨NT.dT h1, NT.lst h2⟩
theorem Td.eT {H : Hp} {v : V} {e : Ent} (h : Td H v (Cs.eT e)) : ∃ t, v = .ref t ∧ H t = some (.tup ((kE e).map kV)) := Td.eE h
section
variable {P : Program} {w : World} {K : PySem.W.Frag} {mg : Str → Option Value} {base : Heap}
theorem Txt.TkS (T : Txt K mg) : TkD K T.C_ScanTalk := ⟨⟨T.cl_ScanTalk, T.na_ScanTalk_answers, T.na_ScanTalk__request⟩, T.na_ScanTalk__sealer, T.na_ScanTalk__entry⟩
theorem ok_note (T : Txt K mg) : FnOk P w K mg base CX0 1 T.f_ScanTalk_note T.d_ScanTalk_note p_ScanTalk_note (spNote T.C_ScanTalk) := by
  refine T.F_ScanTalk_note.ok sc_ScanTalk_note (fun vs H Q E h => ?_) (fun cdv A outer s H vs Q E hr h => ?_)
  · obtain ⟨a, dx, t, r, p, e, lv, en, n, dep, l, us, es, st, rfl, _⟩ := h
    rfl
  · obtain ⟨a, dx, t, r, p, e9, lv, en, n, dep, l, us, es, st, rfl, ha, ht, hus, hst, hlen, k⟩ := h
    refine ⟨_, (pss_one (ps_for PassesOwn.never rfl (pi_tup (pv 1)) (pg_name (i := 3) sc_ScanTalk_note.nd rfl (Or.inl rfl)) (pss_one (ps_if (pt_cmp (pc_dnotin (hu1 hr) (pv 3) (pe_fld (pv 0) rfl))) (pss_cons (ps_dput (hu1 hr) (pe_fld (pv 0) rfl) (pv 3) (pv 2) rfl)
      (pss_one (ps_expr (pe_bm PySem.F.plainAttrs_list PySem.F.slot_list_append PySem.F.type_list_append mt_append (pe_fld (pv 0) rfl) (pa_cons (pv 3) pa_nil))))) pss_nil)))), ?_⟩
    have hul : us.length = es.length := by have := hus.length; simpa using this
    have nt := hst.nt
    obtain ⟨ents0, h10, h20, _⟩ := id hst
    have nal : a ≠ lv := ne_k ha h10 (by intro z; cases z)
    have nae : a ≠ en := ne_k ha h20 (by intro z; cases z)
    have nle : lv ≠ en := ne_k h10 h20 (by intro z; cases z)
    refine ⟨_, rfl, t, rfl, ⟨_, SqT.of ht⟩, for_tup (K := K) (a := t) (xs := us) (fun i σ H' => ∃ v, σ = [some (.ref a), some (.ref t), some (.int (l : Nat)), v] ∧ StAt H' lv en (noteS st (es.take i) l) ∧ Fr [lv, en] H H') ⟨none, rfl, by simpa [noteS] using hst, Fr.refl _⟩ ?_ ?_ ?_⟩
    · rintro i σ H1 hi ⟨v, rfl, _, F⟩
      exact SqT.of (F.tk2 nt.1 nt.2 _ _ ht)
    · rintro i x σ H1 hx ⟨v, rfl, hs1, F⟩
      have hi : i < es.length := by rw [← hul]; exact (List.getElem?_eq_some_iff.mp hx).1
      obtain ⟨d, hd, td⟩ := hus.get hx
      rw [List.getElem?_map, List.getElem?_eq_getElem hi] at hd
      cases hd
      have tk := F.tk2 nt.1 nt.2
      obtain ⟨b, rfl, hb⟩ := (td.keep tk).eT
      have htk : es.take (i + 1) = es.take i ++ [es[i]] := by rw [List.take_succ, List.getElem?_eq_getElem hi]; rfl
      have hl1 := noteS_len l (es.take i) st
      rw [List.length_take] at hl1
      obtain ⟨ents, h1, h2, h3⟩ := id hs1
      have ha1 := F.at ha (nm2 nal nae)
      refine ⟨_, rfl, _, rfl, a, T.C_ScanTalk, dx, _, _, rfl, ha1, T.cl_ScanTalk, T.na_ScanTalk__levels, rfl, lv, _, rfl, DGet.t (k := kE es[i]) h1 hb, _, rfl, ?_⟩
      rw [stK_val]
      rw [htk, noteS_snoc]
      cases e : lvl (noteS st (es.take i) l) es[i] with
      | some q =>
        refine iteF ⟨_, rfl, ?_, F⟩
        unfold note1
        rw [e]
        exact hs1
      | none =>
        refine iteT ?_
        have hz : (stK (noteS st (es.take i) l)).length < sizeLine := by simp only [stK, List.length_map]; exact small1000 (by omega)
        have en0 : ents.length = (noteS st (es.take i) l).length := by have := h3.length; simpa using this
        refine ⟨_, rfl, _, rfl, a, T.C_ScanTalk, dx, _, _, rfl, ha1, T.cl_ScanTalk, T.na_ScanTalk__levels, rfl, _, rfl, lv, _, rfl, DPut.t (k := kE es[i]) h1 hb hz, ?_⟩
        rw [putK_new (by rw [stK_val, e]; rfl)]
        have ha2 : (upd H1 lv (.dT (stK (noteS st (es.take i) l) ++ [(kE es[i], V.int (l : Nat))]))) a = some (.ins T.C_ScanTalk dx (scF n r p e9 dep lv en)) := by rw [upd_ne nal]; exact ha1
        have h22 : (upd H1 lv (.dT (stK (noteS st (es.take i) l) ++ [(kE es[i], V.int (l : Nat))]))) en = some (.lst ents) := by rw [upd_ne nle.symm]; exact h2
        refine ⟨_, rfl, a, T.C_ScanTalk, dx, _, _, rfl, ha2, T.cl_ScanTalk, T.na_ScanTalk__entries, rfl, .inl ⟨rfl, _, SqL.of h22⟩, _, rfl, en, _, _, rfl, rfl, h22, small1000 (by omega), ?_⟩
        have F2 : Fr [lv, en] H1 (upd (upd H1 lv (.dT (stK (noteS st (es.take i) l) ++ [(kE es[i], V.int (l : Nat))]))) en (.lst (ents ++ [.ref b]))) := (Fr.upd List.mem_cons_self).trans (Fr.upd (List.mem_cons_of_mem _ List.mem_cons_self))
        have tk2 := F2.tk2 (NT.dT h1) (NT.lst h2)
        refine ⟨_, rfl, ⟨ents ++ [.ref b], ?_, upd_same, ?_⟩, F.trans F2⟩
        · rw [upd_ne nle, upd_same]
          unfold note1
          rw [e]
          simp [stK]
        · unfold note1
          rw [e]
          simp only [Option.isSome_none, Bool.false_eq_true, if_false, List.map_append, List.map_cons, List.map_nil]
          exact (h3.keep tk2).snoc' ((td.keep tk).keep tk2)
    · rintro σ H1 ⟨v, rfl, hs1, F⟩
      rw [hul, List.take_length] at hs1
      exact k H1 hs1 F
end

/-! ### ScanTalk: its answers -/
inductive Rq where
  | td (d : PyData)
  | ls (ns : List Int)
def RqA (H : Hp) (r : Addr) : Rq → Prop
  | .td d => Td H (.ref r) d
  | .ls ns => ∃ l, H r = some (.tup [.str "done", .ref l]) ∧ H l = some (.lst (ns.map V.int))
structure ScS where
  n : Nat
  b : Int
  m : Int
  st : List (Ent × Nat)
  q : Rq
def ScAt (C : Addr) (H : Hp) (a p lv en : Addr) (dep : Int) (s : ScS) : Prop := ∃ (dx r e : Addr), H a = some (.ins C dx (scF s.n r p e dep lv en)) ∧ RqA H r s.q ∧ H e = some (.tup [.int s.b, .int s.m]) ∧ StAt H lv en s.st
/-- what is noted behind an accepted cell -/
def Noted (dep : Int) (st : List (Ent × Nat)) (l : Nat) (us : List PyData) (st' : List (Ent × Nat)) : Prop := (dep ≤ l ∧ st' = st) ∨ ((l : Int) < dep ∧ ∃ es : List Ent, us = es.map eT ∧ st' = noteS st es (l + 1))
def SStep (ds : List PyData) (dep : Int) (s : ScS) (d : PyData) (s' : ScS) : Prop :=
  (kn ds d s.m = false ∧ s' = ⟨s.n + 1, s.b, s.m, s.st, .td (rfQ s.b)⟩) ∨
  (kn ds d s.m = true ∧ ∃ x us l st', d = .tuple (x :: us) ∧ lvl s.st (s.b, s.m) = some l ∧ Noted dep s.st l us st' ∧
    ((∃ x, st'[s.n + 1]? = some x ∧ s' = ⟨s.n + 1, x.1.1, x.1.2, st', .td (rdQ x.1.1)⟩) ∨ (st'.length ≤ s.n + 1 ∧ ∃ ns : List Int, ns.Pairwise (· < ·) ∧ (∀ k, k ∈ ns ↔ k ∈ st'.map (·.1.1)) ∧ s' = ⟨s.n + 1, s.b, s.m, st', .ls ns⟩)))
def spScInit (C CSh : Addr) : Sp := fun vs H Q _ => ∃ (a dx sh p t : Addr) (f d w bl s : Int) (us : List V) (e0 : Ent) (es : List Ent), vs = [.ref a, .ref sh, .ref p, .ref t] ∧ H a = some (.ins C dx []) ∧ H t = some (.tup us) ∧ TdAll H us ((e0 :: es).map eT) ∧ es.length ≤ 800 ∧ ShAt CSh H sh f d w bl s ∧
  ∀ lv en H', H lv = none → H en = none → ScAt C H' a p lv en d ⟨0, e0.1, e0.2, noteS [] (e0 :: es) 0, .td (rdQ e0.1)⟩ → Fr [a] H H' → Q .non H'
def spScAcc (C : Addr) : Sp := fun vs H Q _ => ∃ (a dx t r p e lv en : Addr) (n : Nat) (dep b m : Int) (l : Nat) (x : V) (us : List V) (uds : List PyData) (st : List (Ent × Nat)), vs = [.ref a, .ref t] ∧ H a = some (.ins C dx (scF n r p e dep lv en)) ∧ H e = some (.tup [.int b, .int m]) ∧ StAt H lv en st ∧ st.length ≤ 900 ∧
  lvl st (b, m) = some l ∧ H t = some (.tup (x :: us)) ∧ us ≠ [] ∧ us.length ≤ 900 ∧ TdAll H us uds ∧ ((l : Int) < dep → ∃ es : List Ent, uds = es.map eT ∧ st.length + es.length ≤ 900) ∧
  ∀ st', Noted dep st l uds st' →
    (∀ x e' q H', st'[n]? = some x → H' a = some (.ins C dx (scF n r p e' dep lv en)) → H' e' = some (.tup [.int x.1.1, .int x.1.2]) → StAt H' lv en st' → H' q = some (.tup [.str "read", .int x.1.1]) → Fr [a, lv, en] H H' → Q (.ref q) H') ∧
    (st'.length ≤ n → ∀ (ns : List Int) q lq H', ns.Pairwise (· < ·) → (∀ k, k ∈ ns ↔ k ∈ st'.map (·.1.1)) → StAt H' lv en st' → H' q = some (.tup [.str "done", .ref lq]) → H' lq = some (.lst (ns.map V.int)) → H lq = none → Fr [lv, en] H H' → Q (.ref q) H')
def spScAns (P : Program) (w : World) (CS C : Addr) : Sp := fun vs H Q _ => ∃ (a p lv en md tl : Addr) (dep : Int) (s : ScS) (v : V) (d : PyData) (ds : List PyData) (b0 : Int), vs = [.ref a, v] ∧ ScAt C H a p lv en dep s ∧ s.q = .td (rdQ b0) ∧ s.st.length ≤ 900 ∧ SeA P w CS H p md tl ds ∧ Td H v d ∧ d.depth ≤ 60 ∧ nd d ≤ 200 ∧
  (kn ds d s.m = true → ∃ x us l, d = .tuple (x :: us) ∧ us ≠ [] ∧ us.length ≤ 900 ∧ lvl s.st (s.b, s.m) = some l ∧ ((l : Int) < dep → ∃ es : List Ent, us = es.map eT ∧ s.st.length + es.length ≤ 900)) ∧
  ∀ s' H', SStep ds dep s d s' → ScAt C H' a p lv en dep s' → Fr [a, lv, en] H H' → Q .non H'
theorem StAt.keep {H H' : Hp} {lv en : Addr} {st : List (Ent × Nat)} (h : StAt H lv en st) {A : List Addr} (F : Fr A H H') (hn : ∀ y ∈ A, NT H y) (n1 : lv ∉ A) (n2 : en ∉ A) : StAt H' lv en st := by
  obtain ⟨ents, h1, h2, h3⟩ := h
  exact ⟨ents, F.at h1 n1, F.at h2 n2, h3.keep (F.tk hn)⟩
theorem StAt.same {H H' : Hp} {lv en : Addr} {st : List (Ent × Nat)} (h : StAt H lv en st) (S : Same H H') : StAt H' lv en st := h.keep (A := []) (Fr.same S) (fun y hy => by cases hy) (by simp) (by simp)
theorem StAt.upd {H : Hp} {lv en a C dx : Addr} {fs : List (Str × V)} {o : HO} {st : List (Ent × Nat)} (h : StAt H lv en st) (ha : H a = some (.ins C dx fs)) : StAt (upd H a o) lv en st := by
  obtain ⟨ents, h1, h2, h3⟩ := id h
  exact h.keep (A := [a]) (Fr.upd List.mem_cons_self) (fun y hy => by rw [List.mem_singleton.mp hy]; exact NT.ins ha) (nm1 (ne_k h1 ha (by intro z; cases z))) (nm1 (ne_k h2 ha (by intro z; cases z)))
theorem nm3 {a b c d : Addr} (h : a ≠ b) (h2 : a ≠ c) (h3 : a ≠ d) : a ∉ [b, c, d] := fun z => by
  rcases List.mem_cons.mp z with e | z
  · exact h e
  · exact nm2 h2 h3 z
theorem Fr.tk3 {a c d : Addr} {H H1 : Hp} (x : Fr [a, c, d] H H1) (h : NT H a) (h2 : NT H c) (h3 : NT H d) : TKeep H H1 := x.tk fun y hy => by
  rcases List.mem_cons.mp hy with e | hy
  · rw [e]; exact h
  · rcases List.mem_cons.mp hy with e | hy
    · rw [e]; exact h2
    · rw [List.mem_singleton.mp hy]; exact h3
section
variable {P : Program} {w : World} {K : PySem.W.Frag} {mg : Str → Option Value} {base : Heap}
theorem b_ScanTalk___init__ (T : Txt K mg) : Binds K T.d_ScanTalk___init__ p_ScanTalk___init__ [] := by
  obtain ⟨oc, od, an, osl, kV, doc, pm, ct, e, _⟩ := T.lk_ScanTalk___init__
  rw [e]
  exact .all fun us hl => match us, hl with | [_, _, _, _], _ => rfl
theorem ok_scinit (T : Txt K mg) (TF : TxF P T) : FnOk P w K mg base CX0 4 T.f_ScanTalk___init__ T.d_ScanTalk___init__ p_ScanTalk___init__ (spScInit T.C_ScanTalk T.C_Shape) := by
  have G_clinit : FnOk P w K mg base CX0 3 T.f_CellTalk___init__ T.d_CellTalk___init__ p_CellTalk___init__ (spClInit T.C_ScanTalk) := ok_clinit T TF T.TkS T.so_CellTalk___init___ScanTalk
  have G_ScanTalk_note : FnOk P w K mg base CX0 1 T.f_ScanTalk_note T.d_ScanTalk_note p_ScanTalk_note (spNote T.C_ScanTalk) := ok_note T
  obtain ⟨oc, od, an, osl, kV, doc, pm, ct, e, lk, hcd⟩ := T.lk_ScanTalk___init__
  obtain ⟨cl, cld, csl, hcell⟩ := T.so_ScanTalk___init___ScanTalk.cell
  rw [e] at lk ⊢
  refine fn_ofA (C := T.C_ScanTalk) lk hcd sc_ScanTalk___init__ hcell (fun vs H Q E h => ?_) (fun A outer s H vs Q E hr h => ?_)
  · obtain ⟨a, dx, sh, p, t, f, d, w, bl, s, us, e0, es, rfl, _⟩ := h
    rfl
  · obtain ⟨a, dx, sh, p, t, f, d, wn, bl, z, us, e0, es, rfl, ha, ht, hus, hel, ⟨dxs, hsh⟩, k⟩ := h
    refine ⟨_, psa_super lk sc_ScanTalk___init__ T.so_ScanTalk___init___ScanTalk TF.hs_ScanTalk___init__ T.z_super G_clinit hr (b_CellTalk___init__ T) pass0 (E2 := E)
      (pa_cons (pv 2) (pa_cons (pe_ix ix_tup (pv 3) pe_int (fun _ _ => rfl)) pa_nil)) (psa_of (pss_cons (ps_fld (pv 0) (pe_fld (pv 1) rfl) rfl)
      (pss_cons (ps_fld (pv 0) pe_dnewT rfl)
      (pss_cons (ps_fld (pv 0) (pe_lst pa_nil) rfl)
      (pss_one (ps_expr (pe_meth (pv 0) T.cl_ScanTalk T.m_ScanTalk_note G_ScanTalk_note (hr.mono (by decide)) T.b_ScanTalk_note .nil pass0 (pa_cons (pv 3) (pa_cons pe_int pa_nil))))))))) (by decide) _ (fun _ => rfl) (fun _ => rfl) (fun _ => rfl) (fun _ => rfl), ?_⟩
    obtain ⟨r0, us', rfl, he0⟩ : ∃ r0 us', us = .ref r0 :: us' ∧ H r0 = some (.tup [.int e0.1, .int e0.2]) := by
      cases hus with
      | cons x y => obtain ⟨r0, rfl, h0⟩ := x.eE; exact ⟨r0, _, rfl, h0⟩
    refine ⟨a, dx, [], rfl, ha, _, rfl, _, rfl, t, _, _, _, rfl, rfl, SqT.of ht, atI_nat (j := 0) rfl, a, dx, p, r0, e0.1, e0.2, rfl, ha, he0, fun r dx' H1 hr0 ha1 hr1 F1 => ?_⟩
    have Q1 : Fr [a] H H1 := fun x o n e => F1 x o (fun z => n (List.mem_singleton.mpr z)) e
    have nsa : sh ≠ a := ne_k hsh ha (ins_ne (by simp [shF]))
    refine ⟨_, rfl, sh, T.C_Shape, dxs, _, _, rfl, Q1.at hsh (nm1 nsa), T.cl_Shape, T.na_Shape_depth, rfl, ?_⟩
    refine ⟨_, rfl, a, T.C_ScanTalk, dx', _, rfl, ha1, T.cl_ScanTalk, T.na_ScanTalk__depth, (by show 4 < 1000; decide), ?_⟩
    intro lv hlv
    have nal : lv ≠ a := fun y => by rw [y, upd_same] at hlv; cases hlv
    refine ⟨_, rfl, a, T.C_ScanTalk, dx', _, rfl, by rw [upd_ne nal.symm, upd_same], T.cl_ScanTalk, T.na_ScanTalk__levels, (by show 5 < 1000; decide), ?_⟩
    refine ⟨Nat.zero_le _, fun en hen => ?_⟩
    have nae : en ≠ a := fun y => by rw [y, upd_same] at hen; cases hen
    have nle : lv ≠ en := fun y => by rw [← y, upd_ne nal, upd_same] at hen; cases hen
    refine ⟨_, rfl, a, T.C_ScanTalk, dx', _, rfl, by rw [upd_ne nae.symm, upd_same], T.cl_ScanTalk, T.na_ScanTalk__entries, (by show 6 < 1000; decide), ?_⟩
    have hlv1 : H1 lv = none := by rw [upd_ne nal] at hlv; exact hlv
    have hen1 : H1 en = none := by rw [upd_ne nae, upd_ne nle.symm, upd_ne nae] at hen; exact hen
    have gone : ∀ {x}, x ≠ a → H1 x = none → H x = none := fun {x} nx h => by
      cases e : H x with
      | none => rfl
      | some o => rw [F1 _ _ nx e] at h; cases h
    have Q2 : Fr [a] H1 (upd (upd (upd (upd (upd H1 a (.ins T.C_ScanTalk dx' (putF "_depth" (.int d) (clF r p r0)))) lv (.dT [])) a (.ins T.C_ScanTalk dx' (putF "_levels" (.ref lv) (putF "_depth" (.int d) (clF r p r0))))) en (.lst [])) a (.ins T.C_ScanTalk dx' (putF "_entries" (.ref en) (putF "_levels" (.ref lv) (putF "_depth" (.int d) (clF r p r0)))))) :=
      (Fr.upd List.mem_cons_self).trans ((Fr.new (by rw [upd_ne nal]; exact hlv1)).trans ((Fr.upd List.mem_cons_self).trans ((Fr.new (by rw [upd_ne nae, upd_ne nle.symm, upd_ne nae]; exact hen1)).trans (Fr.upd List.mem_cons_self))))
    have ha2 : (upd (upd (upd (upd (upd H1 a (.ins T.C_ScanTalk dx' (putF "_depth" (.int d) (clF r p r0)))) lv (.dT [])) a (.ins T.C_ScanTalk dx' (putF "_levels" (.ref lv) (putF "_depth" (.int d) (clF r p r0))))) en (.lst [])) a (.ins T.C_ScanTalk dx' (putF "_entries" (.ref en) (putF "_levels" (.ref lv) (putF "_depth" (.int d) (clF r p r0)))))) a = some (.ins T.C_ScanTalk dx' (scF 0 r p r0 d lv en)) := upd_same
    have hs2 : StAt (upd (upd (upd (upd (upd H1 a (.ins T.C_ScanTalk dx' (putF "_depth" (.int d) (clF r p r0)))) lv (.dT [])) a (.ins T.C_ScanTalk dx' (putF "_levels" (.ref lv) (putF "_depth" (.int d) (clF r p r0))))) en (.lst [])) a (.ins T.C_ScanTalk dx' (putF "_entries" (.ref en) (putF "_levels" (.ref lv) (putF "_depth" (.int d) (clF r p r0)))))) lv en [] :=
      ⟨[], by rw [upd_ne nal, upd_ne nle, upd_ne nal, upd_same]; rfl, by rw [upd_ne nae, upd_same], .nil⟩
    generalize (upd (upd (upd (upd (upd H1 a (.ins T.C_ScanTalk dx' (putF "_depth" (.int d) (clF r p r0)))) lv (.dT [])) a (.ins T.C_ScanTalk dx' (putF "_levels" (.ref lv) (putF "_depth" (.int d) (clF r p r0))))) en (.lst [])) a (.ins T.C_ScanTalk dx' (putF "_entries" (.ref en) (putF "_levels" (.ref lv) (putF "_depth" (.int d) (clF r p r0)))))) = H2 at *
    have tk := (Q1.trans Q2).tk1 (NT.ins ha)
    refine ⟨_, rfl, a, dx', _, rfl, ha2, rfl, _, rfl, a, dx', t, r, p, r0, lv, en, 0, d, 0, _, e0 :: es, [], rfl, ha2, tk _ _ ht, hus.keep tk, hs2, by simp; omega, fun H3 hs3 F3 => ?_⟩
    obtain ⟨n1, n2⟩ := hs2.nt
    have tk3 := F3.tk2 n1 n2
    refine k lv en H3 (gone nal hlv1) (gone nae hen1) ⟨dx', r, r0, F3.at ha2 (nm2 nal.symm nae.symm), strTd (tk3 _ _ (Q2.tk1 (NT.ins ha1) _ _ hr1)) (by decide +kernel) (.int _), tk3 _ _ (tk _ _ he0), hs3⟩ ?_
    intro x o nx e
    have nx' : x ≠ a := fun z => nx (List.mem_singleton.mpr z)
    exact F3 _ _ (nm2 (fun z => by rw [z, gone nal hlv1] at e; cases e) (fun z => by rw [z, gone nae hen1] at e; cases e)) ((Q1.trans Q2) _ _ nx e)
end

section
variable {P : Program} {w : World} {K : PySem.W.Frag} {mg : Str → Option Value} {base : Heap}
theorem ok_scacc (T : Txt K mg) : FnOk P w K mg base CX0 3 T.f_ScanTalk_accepted T.d_ScanTalk_accepted p_ScanTalk_accepted (spScAcc T.C_ScanTalk) := by
  have G_parts : FnOk P w K mg base CX0 1 T.f_parts T.d_parts p_parts spParts := ok_parts T
  have G_ScanTalk_reading : FnOk P w K mg base CX0 1 T.f_CellTalk_reading T.d_CellTalk_reading p_CellTalk_reading (spReading T.C_ScanTalk) := ok_reading T T.TkS
  have G_ScanTalk_note : FnOk P w K mg base CX0 1 T.f_ScanTalk_note T.d_ScanTalk_note p_ScanTalk_note (spNote T.C_ScanTalk) := ok_note T
  refine T.F_ScanTalk_accepted.ok sc_ScanTalk_accepted (fun vs H Q E h => ?_) (fun cdv A outer s H vs Q E hr h => ?_)
  · obtain ⟨a, dx, t, r, p, e, lv, en, n, dep, b, m, l, x, us, uds, st, rfl, _⟩ := h
    rfl
  · obtain ⟨a, dx, t, r, p, e9, lv, en, n, dep, b, m, l, x, us, uds, st, rfl, ha, he, hst, hsl, hl, ht, hne, hul, hud, hes, k⟩ := h
    obtain ⟨ents0, h10, h20, h30⟩ := id hst
    have nal : a ≠ lv := ne_k ha h10 (by intro z; cases z)
    have nae : a ≠ en := ne_k ha h20 (by intro z; cases z)
    have nle : lv ≠ en := ne_k h10 h20 (by intro z; cases z)
    -- behind the notes
    obtain ⟨t2, h2, fin⟩ : ∃ t2, PSs (cxOf CX0 P w K mg base n_ScanTalk_accepted "ScanTalk.accepted" (defScope s_ScanTalk_accepted) T.f_ScanTalk_accepted cdv A outer s H E).nox ((defBody s_ScanTalk_accepted).drop 2) t2 ∧ ∀ (H2 : Hp) (st' : List (Ent × Nat)) (x3 x4 : Option V), Noted dep st l uds st' → StAt H2 lv en st' → Fr [lv, en] H H2 → st'.length ≤ 900 →
        t2 { nx := fun x H' => Q V.non H', rt := Q } [some (.ref a), some (.ref t), some (.int (l : Nat)), x3, x4] H2 := by
      refine ⟨_, (pss_cons (ps_if (pt_cmpR op_lt (pe_fld (pv 0) rfl) (pe_callB call_len_seq (by rfl) T.z_len PySem.boot_len (pa_cons (pe_fld (pv 0) rfl) pa_nil)) (nomark _)) (pss_one (ps_ret (pe_meth (pv 0) T.cl_ScanTalk T.m_ScanTalk_reading G_ScanTalk_reading (hr.mono (by decide)) T.b_CellTalk_reading .nil pass0 (pa_cons (pe_ix ix_list (pe_fld (pv 0) rfl) (pe_fld (pv 0) rfl) (fun _ _ => rfl)) pa_nil)))) pss_nil)
      (pss_one (ps_ret (pe_tup (pa_cons pe_str (pa_cons (pe_callB (cr_sortedSetI rfl) (by rfl) T.z_sorted (by decide +kernel) (pa_cons (pe_scG (own := [("block", 3), ("_", 4)]) (g := gTup K 2 (gCons (gName 3) (gCons (gName 4) gNil))) setO_freshG rfl sc_ScanTalk_accepted.nd (pi_list (pe_fld (pv 0) rfl)) (blkOk_by (N := n_ScanTalk_accepted) (sc := defScope s_ScanTalk_accepted) (by decide +kernel)) (fun _ _ _ _ _ => (pg_tupK (K := K) rfl rfl (pgs_cons (pg_name (i := 3) sc_ScanTalk_accepted.nd rfl (Or.inl rfl)) (pgs_cons (pg_name (i := 4) sc_ScanTalk_accepted.nd rfl (Or.inl rfl)) pgs_nil)))) (fun _ _ _ _ _ => (pv 3)) (fun _ _ _ _ _ => mt_saddB _ _ _ _ _)) pa_nil)) pa_nil)))))), ?_⟩
      intro H2 st' x3 x4 hno hs2 F2 hl2
      obtain ⟨k1, k2⟩ := k st' hno
      obtain ⟨ents, h1, h2, h3⟩ := id hs2
      have ha2 := F2.at ha (nm2 nal nae)
      have hel : ents.length = st'.length := by have := h3.length; simpa using this
      refine ⟨_, rfl, a, T.C_ScanTalk, dx, _, _, rfl, ha2, T.cl_ScanTalk, T.na_ScanTalk_answers, rfl, _, rfl, a, T.C_ScanTalk, dx, _, _, rfl, ha2, T.cl_ScanTalk, T.na_ScanTalk__entries, rfl, en, _, rfl, .inl (SqL.of h2), _, _, rfl, rfl, _, rfl, ?_⟩
      by_cases hn : n < st'.length
      · refine iteDT (by omega) ?_
        obtain ⟨y, hy⟩ : ∃ y, st'[n]? = some y := ⟨_, List.getElem?_eq_getElem hn⟩
        obtain ⟨v, hv, tv⟩ := h3.at (i := n) (d := eT y.1) (by rw [List.getElem?_map, hy]; rfl)
        obtain ⟨e', rfl, he'⟩ := tv.eE
        have nea : e' ≠ a := ne_k he' ha2 (by intro z; cases z)
        refine ⟨_, rfl, a, dx, _, rfl, ha2, rfl, _, rfl, a, T.C_ScanTalk, dx, _, _, rfl, ha2, T.cl_ScanTalk, T.na_ScanTalk__entries, rfl, _, rfl, a, T.C_ScanTalk, dx, _, _, rfl, ha2, T.cl_ScanTalk, T.na_ScanTalk_answers, rfl, en, _, _, _, rfl, rfl, SqL.of h2, atI_nat hv, ?_⟩
        refine ⟨a, dx, e', _, y.1.1, y.1.2, rfl, ha2, (by show 7 < 900; decide), he', fun q hq => ?_⟩
        have nqa : a ≠ q := fun z => by rw [← z, upd_same] at hq; cases hq
        have F3 : Fr [a, lv, en] H (upd (upd H2 a (.ins T.C_ScanTalk dx (putF "_entry" (.ref e') (scF n r p e9 dep lv en)))) q (.tup [.str "read", .int y.1.1])) :=
          (F2.mono (fun y h => List.mem_cons_of_mem _ h)).trans ((Fr.upd List.mem_cons_self).trans (Fr.new hq))
        have S3 := Same.new (o := .tup [V.str "read", V.int y.1.1]) hq
        exact k1 y e' q _ hy (S3 _ _ upd_same) (S3 _ _ (by rw [upd_ne nea]; exact he')) ((hs2.upd ha2).same S3) upd_same F3
      · refine iteDF (by omega) ?_
        refine ⟨_, rfl, a, T.C_ScanTalk, dx, _, _, rfl, ha2, T.cl_ScanTalk, T.na_ScanTalk__entries, rfl, en, rfl, ⟨_, SqL.of h2⟩, fun D hD => ?_⟩
        refine sg_list (nw := fun D => SetO w D (fun _ => false) 0) (D := D) (H1 := H2) (K := K) (a := en) (xs := ents) (fun i H3 => ∃ (S : Int → Bool) (c : Nat), H3 = upd H2 D (SetO w D S c) ∧ c ≤ i ∧ ∀ k, S k = true ↔ k ∈ (st'.take i).map (·.1.1)) ⟨fun _ => false, 0, rfl, Nat.le_refl _, fun k => by simp⟩ ?_ ?_ ?_
        · rintro i H3 hi ⟨S, c, rfl, _⟩
          exact SqL.of (by rw [upd_ne (ne_of_none h2 hD)]; exact h2)
        · rintro i v H3 hv ⟨S, c, rfl, hc, hS⟩
          have hi : i < st'.length := by rw [← hel]; exact (List.getElem?_eq_some_iff.mp hv).1
          obtain ⟨d, hd, td⟩ := h3.get hv
          rw [List.getElem?_map, List.getElem?_eq_getElem hi] at hd
          cases hd
          obtain ⟨e', rfl, he'⟩ := td.eE
          refine ⟨e', _, rfl, SqT.of (by rw [upd_ne (ne_of_none he' hD)]; exact he'), rfl, _, _, rfl, _, _, rfl, rfl, rfl, _, rfl, ?_⟩
          refine ⟨D, st'[i].1.1, S, c, rfl, rfl, upd_same, (by unfold scanBound; omega), fun j => S j || decide (j = st'[i].1.1), (if S st'[i].1.1 = true then c else c + 1), (by first | (rw [upd_upd]; done) | (rw [upd_upd]; rfl)), by split <;> omega, fun k => ?_⟩
          have e1 : st'.take (i + 1) = st'.take i ++ [st'[i]] := by rw [List.take_add_one, List.getElem?_eq_getElem hi]; rfl
          rw [e1, List.map_append, List.mem_append, Bool.or_eq_true, hS, decide_eq_true_iff, List.map_singleton, List.mem_singleton]
        · rintro H3 ⟨S, c, rfl, hc, hS⟩
          rw [hel, List.take_length] at hS
          refine ⟨D, S, c, rfl, upd_same, fun ns lq hs1 hs2' hs3 hlq => ⟨(by show 2 ≤ sizeLine; decide), fun q hq => ?_⟩⟩
          have nqq : lq ≠ q := fun z => by rw [← z, upd_same] at hq; cases hq
          have S3 := (Same.new (o := SetO w D S c) hD).trans ((Same.new (o := .lst (ns.map V.int)) hlq).trans (Same.new (o := .tup [V.str "done", V.ref lq]) hq))
          refine k2 (by omega) ns q lq _ hs1 (fun k => (hs2' k).trans (hS k)) (hs2.same S3) upd_same (by rw [upd_ne nqq, upd_same]) ?_ (F2.trans (Fr.same S3))
          cases e : H lq with
          | none => rfl
          | some o =>
            by_cases z1 : lq = lv
            · rw [z1, upd_ne (ne_of_none h1 hD), h1] at hlq; cases hlq
            by_cases z2 : lq = en
            · rw [z2, upd_ne (ne_of_none h2 hD), h2] at hlq; cases hlq
            rw [(Same.new (o := SetO w D S c) hD) _ _ (F2.at e (nm2 z1 z2))] at hlq; cases hlq
    refine ⟨_, (pss_cons (ps_set (i := 2) sc_ScanTalk_accepted.nd rfl (Or.inl rfl) (pe_dget (hu1 hr) (pe_fld (pv 0) rfl) (pe_fld (pv 0) rfl) (fun _ _ => rfl)))
      (pss_cons (ps_if (pt_cmpR op_lt (pv 2) (pe_fld (pv 0) rfl) (nomark _)) (pss_one (ps_expr (pe_meth (pv 0) T.cl_ScanTalk T.m_ScanTalk_note G_ScanTalk_note (hr.mono (by decide)) T.b_ScanTalk_note .nil pass0 (pa_cons (pe_call G_parts (hr.mono (by decide)) rfl T.mg_parts T.F_parts.kp T.b_parts .nil pass0 (pa_cons (pv 1) pa_nil)) (pa_cons (pe_op op_add (pv 2) pe_int) pa_nil))))) pss_nil)
      h2)), ?_⟩
    have g1 := DGet.t (k := kE (b, m)) h10 he
    rw [stK_val, hl] at g1
    refine ⟨_, rfl, a, T.C_ScanTalk, dx, _, _, rfl, ha, T.cl_ScanTalk, T.na_ScanTalk__levels, rfl, _, rfl, a, T.C_ScanTalk, dx, _, _, rfl, ha, T.cl_ScanTalk, T.na_ScanTalk__entry, rfl, lv, _, rfl, g1, ?_⟩
    refine ⟨_, rfl, _, rfl, a, T.C_ScanTalk, dx, _, _, rfl, ha, T.cl_ScanTalk, T.na_ScanTalk__depth, rfl, _, _, rfl, rfl, _, rfl, ?_⟩
    by_cases hd : (l : Int) < dep
    · obtain ⟨es, rfl, hle⟩ := hes hd
      have hesl : us.length = es.length := by have := hud.length; simpa using this
      refine iteDT hd ?_
      refine ⟨_, rfl, a, dx, _, rfl, ha, rfl, ?_⟩
      refine ⟨_, rfl, t, x, us, rfl, ht, hne, hul, fun u hu => ?_⟩
      have S1 := Same.new (o := .tup us) hu
      refine ⟨_, rfl, _, _, rfl, rfl, ?_⟩
      refine ⟨a, dx, u, r, p, e9, lv, en, n, dep, l + 1, us, es, st, rfl, S1 _ _ ha, upd_same, hud.keep (sameTk S1), hst.same S1, hle, fun H2 hs2 F2 => ?_⟩
      have := noteS_len (l + 1) es st
      exact fin H2 _ _ _ (.inr ⟨hd, es, rfl, rfl⟩) hs2 ((Fr.same S1).trans F2) (by omega)
    · refine iteDF hd ?_
      exact fin H st _ _ (.inl ⟨by omega, rfl⟩) hst (Fr.refl _) hsl
end
section
variable {P : Program} {w : World} {K : PySem.W.Frag} {mg : Str → Option Value} {base : Heap}
theorem ok_scans (T : Txt K mg) : FnOk P w K mg base CX0 9 T.f_Talk_answer T.d_Talk_answer p_Talk_answer (spScAns P w T.C_Sealer T.C_ScanTalk) := by
  have G1 : FnOk P w K mg base CX0 7 T.f_CellTalk_following T.d_CellTalk_following p_CellTalk_following (spClFol P w T.C_Sealer T.C_ScanTalk (spScAcc T.C_ScanTalk)) := ok_clfol T T.TkS T.m_ScanTalk_accepted T.b_ScanTalk_accepted (ok_scacc T)
  refine (ok_ans0 T T.TkS.toTkC T.m_ScanTalk_has_ended T.m_ScanTalk_following T.b_CellTalk_following G1).imp ?_
  rintro vs H Q E ⟨a, p, lv, en, md, tl, dep, s, v, d, ds, b0, rfl, ⟨dx, r, e, ha, hq, he, hst⟩, eq0, hsl, hse, hv, hd, hn, wf, k⟩
  rw [eq0] at hq
  obtain ⟨z, us, er, hr2⟩ : ∃ z us, z = Str.ofString "read" ∧ H r = some (.tup (.str z :: us)) := by
    cases (show Td H (.ref r) (rdQ b0) from hq) with
    | tup h t => cases t with | cons x t => cases x; exact ⟨_, _, rfl, h⟩
  subst er
  obtain ⟨ents0, h10, h20, h30⟩ := id hst
  have nal : a ≠ lv := ne_k ha h10 (by intro z; cases z)
  have nae : a ≠ en := ne_k ha h20 (by intro z; cases z)
  have nea : e ≠ a := ne_k he ha (by intro z; cases z)
  refine ⟨a, dx, scF s.n r p e dep lv en, s.n, r, _, us, v, rfl, ⟨ha, rfl, rfl, rfl, rfl, rfl, rfl, by show 7 < 900; decide⟩, hr2, by decide +kernel, fun H1 S1 R hR E2 => ?_⟩
  have F2 : Fr [a] H (upd H1 a (.ins T.C_ScanTalk dx (putF "answers" (.int ((s.n : Int) + 1)) (scF s.n r p e dep lv en)))) := (Fr.same S1).trans (Fr.upd List.mem_cons_self)
  have ha2 : (upd H1 a (.ins T.C_ScanTalk dx (putF "answers" (.int ((s.n : Int) + 1)) (scF s.n r p e dep lv en)))) a = some (.ins T.C_ScanTalk dx (scF ((s.n + 1 : Nat) : Int) r p e dep lv en)) := upd_same
  have nI := hse.nI ha (by show 7 ≠ 2; decide)
  have hse2 := hse.fr F2 (fun y hy => by rw [List.mem_singleton.mp hy]; exact NT.ins ha) ⟨nm1 nI.1, nm1 nI.2.1, nm1 nI.2.2⟩
  have tk2 : TKeep H _ := F2.tk1 (NT.ins ha)
  have hst2 := hst.keep F2 (fun y hy => by rw [List.mem_singleton.mp hy]; exact NT.ins ha) (nm1 nal.symm) (nm1 nae.symm)
  show spClFol P w T.C_Sealer T.C_ScanTalk (spScAcc T.C_ScanTalk) [.ref a, v] (upd H1 a (.ins T.C_ScanTalk dx (putF "answers" (.int ((s.n : Int) + 1)) (scF s.n r p e dep lv en)))) R E2
  generalize (upd H1 a (.ins T.C_ScanTalk dx (putF "answers" (.int ((s.n : Int) + 1)) (scF s.n r p e dep lv en)))) = H2 at *
  have up : ∀ y ∈ [a], y ∈ [a, lv, en] := fun y h => by rw [List.mem_singleton.mp h]; exact List.mem_cons_self
  refine ⟨a, dx, p, md, tl, e, _, s.b, s.m, v, d, ds, rfl, ha2, rfl, rfl, rfl, tk2 _ _ he, hse2, hv.keep tk2, hd, hn, fun e0 H3 t S3 ht => ?_, fun e0 H3 S3 E3 => ?_⟩
  · have nta : t ≠ a := fun y => by rw [y, S3 _ _ ha2] at ht; cases ht
    have hst4 := (hst2.same S3).same (Same.new (o := .tup [V.str "refused", V.int s.b]) ht)
    have ha4 : (upd H3 t (.tup [.str "refused", .int s.b])) a = some (.ins T.C_ScanTalk dx (scF ((s.n + 1 : Nat) : Int) r p e dep lv en)) := by rw [upd_ne nta.symm]; exact S3 _ _ ha2
    refine hR _ _ dx _ ha4 (by show 7 < 1000; decide) ?_
    have F4 : Fr [a] H (upd (upd H3 t (.tup [.str "refused", .int s.b])) a (.ins T.C_ScanTalk dx (scF ((s.n + 1 : Nat) : Int) t p e dep lv en))) := F2.trans ((Fr.same S3).trans ((Fr.new ht).trans (Fr.upd List.mem_cons_self)))
    exact k _ _ (.inl ⟨e0, rfl⟩) ⟨dx, t, e, upd_same, strTd (by rw [upd_ne nta, upd_same]) (by decide +kernel) (.int _), F4.tk1 (NT.ins ha) _ _ he, hst4.upd ha4⟩ (F4.mono up)
  · obtain ⟨x, us', l, rfl, une, ul, hlv, hes⟩ := wf e0
    obtain ⟨t, x', vs, rfl, htv, hxv, hvs⟩ : ∃ t x' vs, v = .ref t ∧ H t = some (.tup (x' :: vs)) ∧ Td H x' x ∧ TdAll H vs us' := by
      cases hv with
      | tup h q => cases q with | cons q1 q2 => exact ⟨_, _, _, rfl, h, q1, q2⟩
    have hvl := hvs.length
    have vne : vs ≠ [] := fun y => by rw [y] at hvl; exact une (List.length_eq_zero_iff.mp hvl.symm)
    have tk3 : TKeep H H3 := tk2.trans (sameTk S3)
    have F3 : Fr [a, lv, en] H H3 := (F2.trans (Fr.same S3)).mono up
    refine ⟨a, dx, t, r, p, e, lv, en, s.n + 1, dep, s.b, s.m, l, x', vs, us', s.st, rfl, S3 _ _ ha2, tk3 _ _ he, hst2.same S3, hsl, hlv, tk3 _ _ htv, vne, by omega, hvs.keep tk3, hes, fun st' hno => ⟨fun y e' q H4 hy c0 c1 c2 c3 F4 => ?_, fun hle ns q lq H4 s1 s2 c2 c3 c4 c5 F4 => ?_⟩⟩
    · refine hR _ _ dx _ c0 (by show 7 < 1000; decide) ?_
      have tk45 : TKeep H4 (upd H4 a (.ins T.C_ScanTalk dx (scF ((s.n + 1 : Nat) : Int) q p e' dep lv en))) := (Fr.upd List.mem_cons_self).tk1 (NT.ins c0)
      exact k _ _ (.inr ⟨e0, x, us', l, st', rfl, hlv, hno, .inl ⟨y, hy, rfl⟩⟩) ⟨dx, q, e', upd_same, strTd (tk45 _ _ c3) (by decide +kernel) (.int _), tk45 _ _ c1, c2.upd c0⟩ (F3.trans (F4.trans (Fr.upd List.mem_cons_self)))
    · have c0 := F4.at (S3 _ _ ha2) (nm2 nal nae)
      have nqa : lq ≠ a := fun y => by rw [y, S3 _ _ ha2] at c5; cases c5
      have tk45 : TKeep H4 (upd H4 a (.ins T.C_ScanTalk dx (scF ((s.n + 1 : Nat) : Int) q p e dep lv en))) := (Fr.upd List.mem_cons_self).tk1 (NT.ins c0)
      refine hR _ _ dx _ c0 (by show 7 < 1000; decide) ?_
      have nts := (hst2.same S3).nt
      exact k _ _ (.inr ⟨e0, x, us', l, st', rfl, hlv, hno, .inr ⟨hle, ns, s1, s2, rfl⟩⟩) ⟨dx, q, e, upd_same, ⟨lq, tk45 _ _ c3, by rw [upd_ne nqa]; exact c4⟩, tk45 _ _ (F4.tk2 nts.1 nts.2 _ _ (tk3 _ _ he)), c2.upd c0⟩ (F3.trans ((F4.mono fun y h => List.mem_cons_of_mem _ h).trans (Fr.upd List.mem_cons_self)))
end

theorem dT_mkd {P : Program} {w : World} {d : Addr} {xs : List (List Key × V)} {kvs : List (List Item × Addr × Int)} (h : HO.dT xs = MkD P w d kvs) : False := by
  have h' : HO.dT xs = HO.ext _ := h
  cases h'
theorem same_made {H : Hp} {p dx : Addr} (hp : H p = none) (hdx : H dx = none) (o1 o2 : HO) : Same H (upd (upd H dx o1) p o2) := fun b o e => by
  rw [upd_ne (ne_of_none e hp), upd_ne (ne_of_none e hdx)]; exact e
theorem iteNF {c A B : Prop} [Decidable c] (hc : ¬ c) (h : A) : if (!decide c) = true then A else B := by
  rw [decide_eq_false hc]
  exact iteT h
/-- a dict that holds a disk -/
def DiskD (H : Hp) (dk : Addr) (disk : Int → Option PyData) : Prop := ∃ kvs : List (Key × V), H dk = some (.dK kvs) ∧ ∀ b d, disk b = some d → ∃ v, valV kvs (.inl b) = some v ∧ Td H v d
theorem DiskD.keep {H H' : Hp} {dk : Addr} {disk : Int → Option PyData} (h : DiskD H dk disk) (k : TKeep H H') (e : ∀ o, H dk = some o → H' dk = some o) : DiskD H' dk disk := by
  obtain ⟨kvs, h1, h2⟩ := h
  exact ⟨kvs, e _ h1, fun b d hb => let ⟨v, q1, q2⟩ := h2 b d hb; ⟨v, q1, q2.keep k⟩⟩
def spDrvR (P : Program) (w : World) (CS C : Addr) : Sp := fun vs H Q _ => ∃ (a dk p cl md tl : Addr) (way : List Int) (ds : List PyData) (disk : Int → Option PyData) (N : Nat) (G : Nat → RdS → Prop) (s0 : RdS) (D : PyData), vs = [.ref a, .ref dk] ∧ RdAt C H a p cl way s0 ∧ SeA P w CS H p md tl ds ∧ DiskD H dk disk ∧ cl ≠ tl ∧ N ≤ 700 ∧ G 0 s0 ∧
  (∀ i s, G i s → i < N → s.q = rdQ s.b ∧ s.cs.length ≤ i ∧ ∃ d s', disk s.b = some d ∧ d.depth ≤ 60 ∧ nd d ≤ 200 ∧ RStep ds way s d s' ∧ G (i + 1) s') ∧ (∀ s, G N s → s.q = dnQ D) ∧
  ∀ r H', Td H' (.ref r) (dnQ D) → Fr [a, cl] H H' → Q (.ref r) H'
def spDrvS (P : Program) (w : World) (CS C : Addr) : Sp := fun vs H Q _ => ∃ (a dk p lv en md tl : Addr) (dep : Int) (ds : List PyData) (disk : Int → Option PyData) (N : Nat) (G : Nat → ScS → Prop) (s0 : ScS) (ns : List Int), vs = [.ref a, .ref dk] ∧ ScAt C H a p lv en dep s0 ∧ SeA P w CS H p md tl ds ∧ DiskD H dk disk ∧ en ≠ tl ∧ N ≤ 700 ∧ ns.length ≤ 900 ∧ G 0 s0 ∧
  (∀ i s, G i s → i < N → s.q = .td (rdQ s.b) ∧ s.st.length ≤ 900 ∧ ∃ d, disk s.b = some d ∧ d.depth ≤ 60 ∧ nd d ≤ 200 ∧
    (kn ds d s.m = true → ∃ x us l, d = .tuple (x :: us) ∧ us ≠ [] ∧ us.length ≤ 900 ∧ lvl s.st (s.b, s.m) = some l ∧ ((l : Int) < dep → ∃ es : List Ent, us = es.map eT ∧ s.st.length + es.length ≤ 900)) ∧ ∀ s', SStep ds dep s d s' → G (i + 1) s') ∧ (∀ s, G N s → s.q = .ls ns) ∧
  ∀ r l H', H' r = some (.tup [.str "done", .ref l]) → H' l = some (.lst (ns.map V.int)) → Fr [a, lv, en] H H' → Q (.ref r) H'
theorem rdQ_at {H : Hp} {r : Addr} {b : Int} (h : Td H (.ref r) (rdQ b)) : H r = some (.tup [.str "read", .int b]) := by
  cases h with
  | tup h t => cases t with | cons x t => cases x; cases t with | cons x t => cases x; cases t; exact h
theorem dnQ_at {H : Hp} {r : Addr} {d : PyData} (h : Td H (.ref r) (dnQ d)) : ∃ v, H r = some (.tup [.str "done", v]) ∧ Td H v d := by
  cases h with
  | tup h t => cases t with | cons x t => cases x; cases t with | cons x t => cases t; exact ⟨_, h, x⟩
theorem intNL {K : PySem.W.Frag} {H : Hp} (b : Int) : NL K H (.int b) := ⟨_, .base (.int _), kit_ty (by decide +kernel)⟩
section
variable {P : Program} {w : World} {K : PySem.W.Frag} {mg : Str → Option Value} {base : Heap}
theorem ok_drvR (T : Txt K mg) : FnOk P w K mg base CX0 10 T.f__law_drive T.d__law_drive p__law_drive (spDrvR P w T.C_Sealer T.C_ReadTalk) := by
  have TC := T.TkR.toTkC
  have M_request := T.m_ReadTalk_request
  have M_answer := T.m_ReadTalk_answer
  have B_request := T.b_Talk_request
  have B_answer := T.b_Talk_answer
  have G_request : FnOk P w K mg base CX0 2 T.f_Talk_request T.d_Talk_request p_Talk_request (spReq K T.C_ReadTalk) := ok_req T TC
  have G_answer : FnOk P w K mg base CX0 9 T.f_Talk_answer T.d_Talk_answer p_Talk_answer (spRdAns P w T.C_Sealer T.C_ReadTalk) := ok_rdans T
  refine T.F__law_drive.ok sc__law_drive (fun vs H Q E h => ?_) (fun cdv A outer s H vs Q E hr h => ?_)
  · obtain ⟨a, dk, p, cl, md, tl, way, ds, disk, N, G, s0, D, rfl, _⟩ := h
    rfl
  · obtain ⟨a, dk, p, cl, md, tl, way, ds, disk, N, G, s0, D, rfl, hR, hse, hdk, nct, hN, g0, gs, gN, k⟩ := h
    refine ⟨_, (pss_cons (ps_for PassesOwn.never rfl (pi_range1 rfl T.z_range (pa_cons pe_int pa_nil)) (pg_name (i := 2) sc__law_drive.nd rfl (Or.inl rfl)) (pss_cons (ps_set (i := 3) sc__law_drive.nd rfl (Or.inl rfl) (pe_meth0 (pv 0) TC.cl M_request G_request (hr.mono (by decide)) B_request .nil pass0))
      (pss_cons (ps_if (pt_cmpR op_ne (pe_ix ix_tup (pv 3) pe_int (fun _ _ => rfl)) pe_str (nomark _)) (pss_one (ps_ret (pv 3))) pss_nil)
      (pss_one (ps_expr (pe_meth (pv 0) TC.cl M_answer G_answer (hr.mono (by decide)) B_answer .nil pass0 (pa_cons (pe_dget (hu1 hr) (pv 1) (pe_ix ix_tup (pv 3) pe_int (fun _ _ => rfl)) (fun _ _ => rfl)) pa_nil)))))))
      (pss_one (ps_ret (pe_tup (pa_cons pe_str pa_nil))))), ?_⟩
    obtain ⟨dx0, r0, e0, wy0, cs0, ha0, _, _, hcl0, _⟩ := id hR
    obtain ⟨kvs0, hk0, _⟩ := id hdk
    have nda : dk ≠ a := ne_k hk0 ha0 (by intro z; cases z)
    have ndc : dk ≠ cl := ne_k hk0 hcl0 (by intro z; cases z)
    have nI := hse.nI ha0 (by show 6 ≠ 2; decide)
    obtain ⟨_, kv1, vs1, hp1, hm1, ht1, _⟩ := id hse
    have npc : p ≠ cl := ne_k hp1 hcl0 (by intro z; cases z)
    have nmc : md ≠ cl := fun y => by rw [y, hcl0] at hm1; exact (lst_mkd (Option.some.inj hm1)).elim
    refine ⟨_, rfl, (by decide), (by decide), for_range (n := 800) (fun i σ H' => ∃ (x2 x3 : Option V) (s : RdS), σ = [some (.ref a), some (.ref dk), x2, x3] ∧ i ≤ N ∧ G i s ∧ RdAt T.C_ReadTalk H' a p cl way s ∧ Fr [a, cl] H H') ⟨none, none, s0, rfl, Nat.zero_le _, g0, hR, Fr.refl _⟩ ?_ ?_⟩
    · rintro i σ H1 hi ⟨x2, x3, s, rfl, iN, gi, ⟨dx, r, e, wy, cs, ha, hq, he, hcl, hcs, hwy⟩, F⟩
      have tk := F.tk2 (NT.ins ha0) (NT.lst hcl0)
      have tkk : ∀ n r, Tk T.C_ReadTalk H1 a dx (rdF s.n r p e cl wy) n r → True := fun _ _ _ => True.intro
      have tk1 : Tk T.C_ReadTalk H1 a dx (rdF s.n r p e cl wy) s.n r := ⟨ha, rfl, rfl, rfl, rfl, rfl, rfl, by show 6 < 900; decide⟩
      by_cases hlt : i < N
      · obtain ⟨eq, hcn, d, s', hd, dd, dn, st, gn⟩ := gs i s gi hlt
        have hR1 : RdAt T.C_ReadTalk H1 a p cl way s := ⟨dx, r, e, wy, cs, ha, hq, he, hcl, hcs, hwy⟩
        rw [eq] at hq
        have hr2 := rdQ_at hq
        refine ⟨_, rfl, a, dx, _, rfl, ha, rfl, a, dx, _, _, r, rfl, tk1, Apt.of hr2 (fun v ws e => by cases e; exact intNL _) (fun _ e => by cases e) ?_⟩
        refine ⟨_, rfl, r, _, _, _, rfl, rfl, SqT.of hr2, atI_nat (j := 0) rfl, rfl, _, rfl, iteNS rfl ?_⟩
        obtain ⟨kvs, hk, hv⟩ := hdk.keep tk fun o e => F.at e (nm2 nda ndc)
        obtain ⟨v, hv1, hv2⟩ := hv _ _ hd
        have g1 := DGet.k (k := Sum.inl s.b) hk
        rw [hv1] at g1
        refine ⟨_, rfl, a, dx, _, rfl, ha, rfl, _, rfl, _, rfl, r, _, _, _, rfl, rfl, SqT.of hr2, atI_nat (j := 1) rfl, dk, _, rfl, g1, ?_⟩
        have hse1 := hse.fr F (fun y hy => by rcases List.mem_cons.mp hy with e | hy; · rw [e]; exact NT.ins ha0
                                              · rw [List.mem_singleton.mp hy]; exact NT.lst hcl0) ⟨nm2 nI.1 npc, nm2 nI.2.1 nmc, nm2 nI.2.2 nct.symm⟩
        refine ⟨a, p, cl, md, tl, way, s, s', v, d, ds, s.b, rfl, hR1, eq, hse1, hv2, dd, dn, by omega, nct, st, fun H2 hR2 F2 => ?_⟩
        exact ⟨_, _, s', rfl, hlt, gn, hR2, F.trans F2⟩
      · obtain rfl : i = N := by omega
        rw [gN s gi] at hq
        obtain ⟨v, hr2, hv⟩ := dnQ_at hq
        refine ⟨_, rfl, a, dx, _, rfl, ha, rfl, a, dx, _, _, r, rfl, tk1, Apt.of hr2 (fun v ws e => by cases e; exact hv.nl) (fun _ e => by cases e) ?_⟩
        refine ⟨_, rfl, r, _, _, _, rfl, rfl, SqT.of hr2, atI_nat (j := 0) rfl, rfl, _, rfl, iteNF (fun z => absurd (V.str.inj z) (by decide +kernel)) ?_⟩
        exact ⟨_, rfl, k r H1 hq F⟩
    · rintro σ H1 ⟨x2, x3, s, rfl, iN, _⟩
      omega
theorem ok_drvS (T : Txt K mg) : FnOk P w K mg base CX0 10 T.f__law_drive T.d__law_drive p__law_drive (spDrvS P w T.C_Sealer T.C_ScanTalk) := by
  have TC := T.TkS.toTkC
  have M_request := T.m_ScanTalk_request
  have M_answer := T.m_ScanTalk_answer
  have B_request := T.b_Talk_request
  have B_answer := T.b_Talk_answer
  have G_request : FnOk P w K mg base CX0 2 T.f_Talk_request T.d_Talk_request p_Talk_request (spReq K T.C_ScanTalk) := ok_req T TC
  have G_answer : FnOk P w K mg base CX0 9 T.f_Talk_answer T.d_Talk_answer p_Talk_answer (spScAns P w T.C_Sealer T.C_ScanTalk) := ok_scans T
  refine T.F__law_drive.ok sc__law_drive (fun vs H Q E h => ?_) (fun cdv A outer s H vs Q E hr h => ?_)
  · obtain ⟨a, dk, p, lv, en, md, tl, dep, ds, disk, N, G, s0, ns, rfl, _⟩ := h
    rfl
  · obtain ⟨a, dk, p, lv, en, md, tl, dep, ds, disk, N, G, s0, ns, rfl, hR, hse, hdk, nct, hN, hns, g0, gs, gN, k⟩ := h
    refine ⟨_, (pss_cons (ps_for PassesOwn.never rfl (pi_range1 rfl T.z_range (pa_cons pe_int pa_nil)) (pg_name (i := 2) sc__law_drive.nd rfl (Or.inl rfl)) (pss_cons (ps_set (i := 3) sc__law_drive.nd rfl (Or.inl rfl) (pe_meth0 (pv 0) TC.cl M_request G_request (hr.mono (by decide)) B_request .nil pass0))
      (pss_cons (ps_if (pt_cmpR op_ne (pe_ix ix_tup (pv 3) pe_int (fun _ _ => rfl)) pe_str (nomark _)) (pss_one (ps_ret (pv 3))) pss_nil)
      (pss_one (ps_expr (pe_meth (pv 0) TC.cl M_answer G_answer (hr.mono (by decide)) B_answer .nil pass0 (pa_cons (pe_dget (hu1 hr) (pv 1) (pe_ix ix_tup (pv 3) pe_int (fun _ _ => rfl)) (fun _ _ => rfl)) pa_nil)))))))
      (pss_one (ps_ret (pe_tup (pa_cons pe_str pa_nil))))), ?_⟩
    obtain ⟨dx0, r0, e0, ha0, _, _, hst0⟩ := id hR
    obtain ⟨ents0, hlv0, hen0, _⟩ := id hst0
    obtain ⟨kvs0, hk0, _⟩ := id hdk
    have nda : dk ≠ a := ne_k hk0 ha0 (by intro z; cases z)
    have ndl : dk ≠ lv := ne_k hk0 hlv0 (by intro z; cases z)
    have nde : dk ≠ en := ne_k hk0 hen0 (by intro z; cases z)
    have nI := hse.nI ha0 (by show 7 ≠ 2; decide)
    obtain ⟨_, kv1, vs1, hp1, hm1, ht1, _⟩ := id hse
    have npl : p ≠ lv := ne_k hp1 hlv0 (by intro z; cases z)
    have npe : p ≠ en := ne_k hp1 hen0 (by intro z; cases z)
    have nme : md ≠ en := fun y => by rw [y, hen0] at hm1; exact (lst_mkd (Option.some.inj hm1)).elim
    have nml : md ≠ lv := fun y => by rw [y, hlv0] at hm1; exact (dT_mkd (Option.some.inj hm1)).elim
    have ntl : tl ≠ lv := ne_k ht1 hlv0 (by intro z; cases z)
    refine ⟨_, rfl, (by decide), (by decide), for_range (n := 800) (fun i σ H' => ∃ (x2 x3 : Option V) (s : ScS), σ = [some (.ref a), some (.ref dk), x2, x3] ∧ i ≤ N ∧ G i s ∧ ScAt T.C_ScanTalk H' a p lv en dep s ∧ Fr [a, lv, en] H H') ⟨none, none, s0, rfl, Nat.zero_le _, g0, hR, Fr.refl _⟩ ?_ ?_⟩
    · rintro i σ H1 hi ⟨x2, x3, s, rfl, iN, gi, ⟨dx, r, e, ha, hq, he, hst⟩, F⟩
      have tk := F.tk3 (NT.ins ha0) (NT.dT hlv0) (NT.lst hen0)
      have tk1 : Tk T.C_ScanTalk H1 a dx (scF s.n r p e dep lv en) s.n r := ⟨ha, rfl, rfl, rfl, rfl, rfl, rfl, by show 7 < 900; decide⟩
      have hR1 : ScAt T.C_ScanTalk H1 a p lv en dep s := ⟨dx, r, e, ha, hq, he, hst⟩
      by_cases hlt : i < N
      · obtain ⟨eq, hcn, d, hd, dd, dn, wf, gn⟩ := gs i s gi hlt
        rw [eq] at hq
        have hr2 := rdQ_at hq
        refine ⟨_, rfl, a, dx, _, rfl, ha, rfl, a, dx, _, _, r, rfl, tk1, Apt.of hr2 (fun v ws e => by cases e; exact intNL _) (fun _ e => by cases e) ?_⟩
        refine ⟨_, rfl, r, _, _, _, rfl, rfl, SqT.of hr2, atI_nat (j := 0) rfl, rfl, _, rfl, iteNS rfl ?_⟩
        obtain ⟨kvs, hk, hv⟩ := hdk.keep tk fun o e => F.at e (nm3 nda ndl nde)
        obtain ⟨v, hv1, hv2⟩ := hv _ _ hd
        have g1 := DGet.k (k := Sum.inl s.b) hk
        rw [hv1] at g1
        refine ⟨_, rfl, a, dx, _, rfl, ha, rfl, _, rfl, _, rfl, r, _, _, _, rfl, rfl, SqT.of hr2, atI_nat (j := 1) rfl, dk, _, rfl, g1, ?_⟩
        have hse1 := hse.keep tk (fun o e => F.at e (nm3 nI.1 npl npe)) (fun o e => F.at e (nm3 nI.2.1 nml nme)) (fun o e => F.at e (nm3 nI.2.2 ntl nct.symm))
        refine ⟨a, p, lv, en, md, tl, dep, s, v, d, ds, s.b, rfl, hR1, eq, hcn, hse1, hv2, dd, dn, wf, fun s' H2 st hR2 F2 => ?_⟩
        exact ⟨_, _, s', rfl, hlt, gn s' st, hR2, F.trans F2⟩
      · obtain rfl : i = N := by omega
        rw [gN s gi] at hq
        obtain ⟨l, hr2, hl⟩ := hq
        refine ⟨_, rfl, a, dx, _, rfl, ha, rfl, a, dx, _, _, r, rfl, tk1, _, _, hr2, fun z => absurd rfl z, fun _ => ⟨_, _, rfl, .inr ⟨l, _, rfl, hl, by rw [List.length_map]; exact Nat.le_of_lt (small1000 (by omega)), fun l' t hl' ht' => ?_⟩⟩⟩
        have ne1 : l' ≠ t := fun y => by rw [← y, upd_same] at ht'; cases ht'
        refine ⟨_, rfl, t, _, _, _, rfl, rfl, SqT.of upd_same, atI_nat (j := 0) rfl, rfl, _, rfl, iteNF (fun z => absurd (V.str.inj z) (by decide +kernel)) ?_⟩
        exact ⟨_, rfl, k t l' _ upd_same (by rw [upd_ne ne1, upd_same]) (F.trans ((Fr.new hl').trans (Fr.new ht')))⟩
    · rintro σ H1 ⟨x2, x3, s, rfl, iN, _⟩
      omega
def spMount (CS C : Addr) : Sp := fun vs H Q _ => ∃ (sh p an : Addr) (f d w bl s : Int) (ep : PyData) (e0 : Ent) (es : List Ent), vs = [.ref sh, .ref p, .ref an] ∧ ShAt C H sh f d w bl s ∧ Td H (.ref an) (.tuple [.str ("anchor" : Str), ep, .tuple ((e0 :: es).map eT)]) ∧ es.length ≤ 800 ∧
  ∀ a lv en H', H a = none → H lv = none → H en = none → ScAt CS H' a p lv en d ⟨0, e0.1, e0.2, noteS [] (e0 :: es) 0, .td (rdQ e0.1)⟩ → Same H H' → Q (.ref a) H'
theorem ok_mount (T : Txt K mg) (TF : TxF P T) : FnOk P w K mg base CX0 6 T.f_mount T.d_mount p_mount (spMount T.C_ScanTalk T.C_Shape) := by
  have G_ScanTalk___init__ : FnOk P w K mg base CX0 4 T.f_ScanTalk___init__ T.d_ScanTalk___init__ p_ScanTalk___init__ (spScInit T.C_ScanTalk T.C_Shape) := ok_scinit T TF
  refine T.F_mount.ok sc_mount (fun vs H Q E h => ?_) (fun cdv A outer s H vs Q E hr h => ?_)
  · obtain ⟨sh, p, an, f, d, w, bl, s, ep, e0, es, rfl, _⟩ := h
    rfl
  · obtain ⟨sh, p, an, f, d, wn, bl, z, ep, e0, es, rfl, ⟨dxs, hsh⟩, han, hel, k⟩ := h
    refine ⟨_, (pss_one (ps_ret (pe_make T.M_ScanTalk G_ScanTalk___init__ (hr.mono (by decide)) rfl T.mg_ScanTalk (b_ScanTalk___init__ T) .nil pass0 (pa_cons (pv 0) (pa_cons (pv 1) (pa_cons (pe_ix ix_tup (pv 2) pe_int (fun _ _ => rfl)) pa_nil)))))), ?_⟩
    obtain ⟨v0, v1, tr, us, hana, htr, hus⟩ : ∃ v0 v1 tr us, H an = some (.tup [v0, v1, .ref tr]) ∧ H tr = some (.tup us) ∧ TdAll H us ((e0 :: es).map eT) := by
      cases han with
      | tup h t => cases t with | cons _ t => cases t with | cons _ t => cases t with | cons x t => cases t; cases x with | tup h2 t2 => exact ⟨_, _, _, _, h, h2, t2⟩
    refine ⟨_, rfl, _, rfl, _, rfl, an, _, _, _, rfl, rfl, SqT.of hana, atI_nat (j := 2) rfl, ?_⟩
    intro a dx ha hdx nex
    have S1 := same_made ha hdx (.own a) (.ins T.C_ScanTalk dx [])
    refine ⟨a, dx, sh, p, tr, f, d, wn, bl, z, us, e0, es, rfl, upd_same, S1 _ _ htr, hus.keep (sameTk S1), hel, ⟨dxs, S1 _ _ hsh⟩, fun lv en H1 hlv hen hs F => ⟨rfl, ?_⟩⟩
    have gone : ∀ {x}, (upd (upd H dx (.own a)) a (.ins T.C_ScanTalk dx [])) x = none → H x = none := fun {x} h => by
      cases e : H x with
      | none => rfl
      | some o => rw [S1 _ _ e] at h; cases h
    exact k a lv en H1 ha (gone hlv) (gone hen) hs fun x o e => F x o (nm1 (ne_of_none e ha)) (S1 _ _ e)
end

/-! ### blank volumes -/
/-- the cells of a blank volume, by their level -/
def cD (w f : Nat) : Nat → PyData
  | 0 => .tuple (.str ("leaf" : Str) :: List.replicate w (.int 0))
  | l + 1 => .tuple (.str ("node" : Str) :: List.replicate f (.tuple [.int (l : Int), .int ((l : Int) + 1)]))
def cDs (w f n : Nat) : List PyData := (List.range n).map (cD w f)
theorem cDs_succ (w f n : Nat) : cDs w f (n + 1) = cDs w f n ++ [cD w f n] := by simp [cDs, List.range_succ]
theorem cDs_len (w f n : Nat) : (cDs w f n).length = n := by simp [cDs]
theorem cD_facts {w f n : Nat} (h1 : w ≤ 4) (h2 : f ≤ 4) : txt (cD w f n) = true ∧ nd (cD w f n) ≤ 20 ∧ (cD w f n).depth ≤ 3 := by
  have hf : f = 0 ∨ f = 1 ∨ f = 2 ∨ f = 3 ∨ f = 4 := by omega
  have hw : w = 0 ∨ w = 1 ∨ w = 2 ∨ w = 3 ∨ w = 4 := by omega
  cases n with
  | zero => rcases hw with rfl | rfl | rfl | rfl | rfl <;> simp [cD, List.replicate, txt, txtAll, nd, ndAll, PyData.depth, PyData.depthAll]
  | succ n => rcases hf with rfl | rfl | rfl | rfl | rfl <;> simp [cD, List.replicate, txt, txtAll, nd, ndAll, PyData.depth, PyData.depthAll]
theorem cD_inj {w f : Nat} (h2 : 1 ≤ f) : ∀ {i j : Nat}, cD w f i = cD w f j → i = j
  | 0, 0, _ => rfl
  | 0, j + 1, h => by
    simp only [cD, PyData.tuple.injEq, List.cons.injEq, PyData.str.injEq] at h
    exact absurd h.1 (by decide)
  | i + 1, 0, h => by
    simp only [cD, PyData.tuple.injEq, List.cons.injEq, PyData.str.injEq] at h
    exact absurd h.1 (by decide)
  | i + 1, j + 1, h => by
    obtain ⟨f, rfl⟩ : ∃ g, f = g + 1 := ⟨f - 1, by omega⟩
    simp only [cD, List.replicate_succ, PyData.tuple.injEq, List.cons.injEq, PyData.int.injEq] at h
    omega
theorem cD_new {w f n : Nat} (h2 : 1 ≤ f) : cD w f n ∉ cDs w f n := fun h => by
  obtain ⟨i, hi, e⟩ := List.mem_map.mp h
  have := cD_inj h2 e
  have := List.mem_range.mp hi
  omega
theorem TdAll.rep {H : Hp} {v : V} {d : PyData} (h : Td H v d) : ∀ n : Nat, TdAll H (List.replicate n v) (List.replicate n d)
  | 0 => .nil
  | n + 1 => .cons h (TdAll.rep h n)
theorem rep_one {α : Type} (x : α) : ∀ n : Nat, (List.replicate n [x]).flatten = List.replicate n x
  | 0 => rfl
  | n + 1 => by rw [List.replicate_succ, List.flatten_cons, rep_one x n]; rfl
section
variable {P : Program} {w : World} {K : PySem.W.Frag} {mg : Str → Option Value} {base : Heap}
def spCell (z : Str) : Sp := fun vs H Q _ => ∃ (l : Addr) (us : List V), vs = [.ref l] ∧ H l = some (.lst us) ∧ us.length ≤ 30 ∧ ∀ t, H t = none → Q (.ref t) (upd H t (.tup (.str z :: us)))
theorem ok_leaf (T : Txt K mg) : FnOk P w K mg base CX0 1 T.f_leaf T.d_leaf p_leaf (spCell "leaf") := by
  refine T.F_leaf.ok sc_leaf (fun vs H Q E h => ?_) (fun cdv A outer s H vs Q E hr h => ?_)
  · obtain ⟨l, us, rfl, _⟩ := h
    rfl
  · obtain ⟨l, us, rfl, hl, hn, k⟩ := h
    refine ⟨_, (pss_one (ps_ret (pe_tup (pa_cons pe_str (StX.pa_star (pv 0) pa_nil))))), ?_⟩
    refine ⟨_, rfl, l, us, rfl, .inr (SqL.of hl), ?_⟩
    exact ⟨by show ([V.str "leaf"] ++ (us ++ [])).length ≤ sizeLine; simp [sizeLine]; omega, fun t ht => by have := k t ht; simpa using this⟩
theorem ok_node (T : Txt K mg) : FnOk P w K mg base CX0 1 T.f_node T.d_node p_node (spCell "node") := by
  refine T.F_node.ok sc_node (fun vs H Q E h => ?_) (fun cdv A outer s H vs Q E hr h => ?_)
  · obtain ⟨l, us, rfl, _⟩ := h
    rfl
  · obtain ⟨l, us, rfl, hl, hn, k⟩ := h
    refine ⟨_, (pss_one (ps_ret (pe_tup (pa_cons pe_str (StX.pa_star (pv 0) pa_nil))))), ?_⟩
    refine ⟨_, rfl, l, us, rfl, .inr (SqL.of hl), ?_⟩
    exact ⟨by show ([V.str "node"] ++ (us ++ [])).length ≤ sizeLine; simp [sizeLine]; omega, fun t ht => by have := k t ht; simpa using this⟩
/-- the pairs of block and cell -/
def pD (w f : Nat) (i : Nat) : PyData := .tuple [.int (i : Int), cD w f i]
def pDs (w f n : Nat) : List PyData := (List.range n).map (pD w f)
theorem pDs_succ (w f n : Nat) : pDs w f (n + 1) = pDs w f n ++ [pD w f n] := by simp [pDs, List.range_succ]
/-- the entry of a level's cell -/
def eD (n : Nat) : PyData := .tuple [.int (n : Int), .int ((n : Int) + 1)]
def spBlank (P : Program) (wd : World) (C CS : Addr) : Sp := fun vs H Q _ => ∃ (sh p md tl : Addr) (f d w b s : Int), vs = [.ref sh, .ref p] ∧ ShAt C H sh f d w b s ∧ ShOk f d w b s ∧ SeA P wd CS H p md tl [] ∧
  ∀ (t wl an : Addr) (us : List V) (H' : Hp), (∀ b o, b ≠ md → b ≠ tl → H b = some o → H' b = some o) → TKeep H H' → SeA P wd CS H' p md tl (cDs w.toNat f.toNat (d.toNat + 1)) → H' t = some (.tup [.ref wl, .ref an]) →
    H' wl = some (.lst us) → H wl = none → TdAll H' us (pDs w.toNat f.toNat (d.toNat + 1)) → Td H' (.ref an) (.tuple [.str ("anchor" : Str), .int 0, .tuple [eD d.toNat]]) → Q (.ref t) H'
theorem ok_blank (T : Txt K mg) : FnOk P w K mg base CX0 3 T.f_blank_volume T.d_blank_volume p_blank_volume (spBlank P w T.C_Shape T.C_Sealer) := by
  have G_leaf : FnOk P w K mg base CX0 1 T.f_leaf T.d_leaf p_leaf (spCell "leaf") := ok_leaf T
  have G_node : FnOk P w K mg base CX0 1 T.f_node T.d_node p_node (spCell "node") := ok_node T
  have G_Sealer_mark : FnOk P w K mg base CX0 2 T.f_Sealer_mark T.d_Sealer_mark p_Sealer_mark (spMark P w T.C_Sealer) := ok_mark T
  refine T.F_blank_volume.ok sc_blank_volume (fun vs H Q E h => ?_) (fun cdv A outer s H vs Q E hr h => ?_)
  · obtain ⟨sh, p, md, tl, f, d, w, b, s, rfl, _⟩ := h
    rfl
  · obtain ⟨sh, p, md, tl, f, d, wn, b, z, rfl, ⟨dx, hsh⟩, ⟨f2, f4, d1, d6, fd, w1, w4, hb1, hb2, s0, s3⟩, hse, k⟩ := h
    refine ⟨_, (pss_cons (ps_set (i := 2) sc_blank_volume.nd rfl (Or.inl rfl) (pe_call G_leaf (hr.mono (by decide)) rfl T.mg_leaf T.F_leaf.kp T.b_leaf .nil pass0 (pa_cons (pe_op op_rep (pe_lst (pa_cons pe_int pa_nil)) (pe_fld (pv 0) rfl)) pa_nil)))
      (pss_cons (ps_set (i := 3) sc_blank_volume.nd rfl (Or.inl rfl) (pe_lst (pa_cons (pe_tup (pa_cons pe_int (pa_cons (pv 2) pa_nil))) pa_nil)))
      (pss_cons (ps_set (i := 4) sc_blank_volume.nd rfl (Or.inl rfl) (pe_tup (pa_cons pe_int (pa_cons (pe_meth (pv 1) T.cl_Sealer T.m_Sealer_mark G_Sealer_mark (hr.mono (by decide)) T.b_Sealer_mark .nil pass0 (pa_cons (pv 2) pa_nil)) pa_nil))))
      (pss_cons (ps_for PassesOwn.never rfl (pi_range2 rfl T.z_range (pa_cons pe_int (pa_cons (pe_op op_add (pe_fld (pv 0) rfl) pe_int) pa_nil))) (pg_name (i := 5) sc_blank_volume.nd rfl (Or.inl rfl)) (pss_cons (ps_set (i := 2) sc_blank_volume.nd rfl (Or.inl rfl) (pe_call G_node (hr.mono (by decide)) rfl T.mg_node T.F_node.kp T.b_node .nil pass0 (pa_cons (pe_op op_rep (pe_lst (pa_cons (pv 4) pa_nil)) (pe_fld (pv 0) rfl)) pa_nil)))
      (pss_cons (ps_expr (pe_bm PySem.F.plainAttrs_list PySem.F.slot_list_append PySem.F.type_list_append mt_append (pv 3) (pa_cons (pe_tup (pa_cons (pv 5) (pa_cons (pv 2) pa_nil))) pa_nil)))
      (pss_one (ps_set (i := 4) sc_blank_volume.nd rfl (Or.inl rfl) (pe_tup (pa_cons (pv 5) (pa_cons (pe_meth (pv 1) T.cl_Sealer T.m_Sealer_mark G_Sealer_mark (hr.mono (by decide)) T.b_Sealer_mark .nil pass0 (pa_cons (pv 2) pa_nil)) pa_nil))))))))
      (pss_one (ps_ret (pe_tup (pa_cons (pv 3) (pa_cons (pe_tup (pa_cons pe_str (pa_cons pe_int (pa_cons (pe_tup (pa_cons (pv 4) pa_nil)) pa_nil)))) pa_nil))))))))), ?_⟩
    obtain ⟨dxs, kvs0, vs0, hp0, hm0, ht0, _⟩ := id hse
    have hF := cD_facts (w := wn.toNat) (f := f.toNat) (n := 0) (by omega) (by omega)
    refine ⟨(by show 1 ≤ sizeLine; decide), fun l0 hl0 => ?_⟩
    refine ⟨_, rfl, sh, T.C_Shape, dx, _, _, rfl, by rw [upd_ne (ne_of_none hsh hl0)]; exact hsh, T.cl_Shape, T.na_Shape_words, rfl, ?_⟩
    refine ⟨l0, wn, [V.int 0], rfl, rfl, upd_same, by omega, by omega, by show 1 * wn.toNat ≤ sizeLine; simp only [sizeLine]; omega, fun l1 hl1 => ?_⟩
    rw [rep_one]
    refine ⟨l1, _, rfl, upd_same, by simp; omega, fun t0 ht0' => ?_⟩
    have S1 : Same H (upd (upd (upd H l0 (.lst [V.int 0])) l1 (.lst (List.replicate wn.toNat (V.int 0)))) t0 (.tup (.str "leaf" :: List.replicate wn.toNat (V.int 0)))) := (Same.new hl0).trans ((Same.new hl1).trans (Same.new ht0'))
    have D1 : Td (upd (upd (upd H l0 (.lst [V.int 0])) l1 (.lst (List.replicate wn.toNat (V.int 0)))) t0 (.tup (.str "leaf" :: List.replicate wn.toNat (V.int 0)))) (.ref t0) (cD wn.toNat f.toNat 0) := .tup upd_same (.cons (.str _ (by decide +kernel)) (TdAll.rep (.int 0) _))
    generalize (upd (upd (upd H l0 (.lst [V.int 0])) l1 (.lst (List.replicate wn.toNat (V.int 0)))) t0 (.tup (.str "leaf" :: List.replicate wn.toNat (V.int 0)))) = H1 at *
    -- writes
    refine ⟨_, rfl, (by show 2 ≤ sizeLine; decide), fun tp htp => ?_⟩
    refine ⟨(by show 1 ≤ sizeLine; decide), fun wl hwl => ?_⟩
    have S2 : Same H (upd (upd H1 tp (.tup [.int 0, .ref t0])) wl (.lst [.ref tp])) := S1.trans ((Same.new htp).trans (Same.new hwl))
    have hwl0 : H wl = none := by
      cases e : H wl with
      | none => rfl
      | some o => rw [((S1.trans (Same.new htp)) _ _ e)] at hwl; cases hwl
    have D2 : Td (upd (upd H1 tp (.tup [.int 0, .ref t0])) wl (.lst [.ref tp])) (.ref t0) (cD wn.toNat f.toNat 0) := D1.keep ((sameTk (Same.new htp)).trans (sameTk (Same.new hwl)))
    have W2 : (upd (upd H1 tp (.tup [.int 0, .ref t0])) wl (.lst [.ref tp])) wl = some (.lst [.ref tp]) := upd_same
    have P2 : TdAll (upd (upd H1 tp (.tup [.int 0, .ref t0])) wl (.lst [.ref tp])) [.ref tp] (pDs wn.toNat f.toNat (0 + 1)) := .cons (.tup (by rw [upd_ne (ne_of_none upd_same hwl)]; exact upd_same) (.cons (.int 0) (.cons D2 .nil))) .nil
    generalize (upd (upd H1 tp (.tup [.int 0, .ref t0])) wl (.lst [.ref tp])) = H2 at *
    -- entry
    have Se2 := hse.same S2
    have nwm : wl ≠ md := (ne_of_none hm0 hwl0).symm
    have nwt : wl ≠ tl := (ne_of_none ht0 hwl0).symm
    have nwp : wl ≠ p := (ne_of_none hp0 hwl0).symm
    refine ⟨_, rfl, p, _, _, rfl, S2 _ _ hp0, rfl, _, rfl, p, md, tl, [], .ref t0, _, rfl, Se2, D2, hF.1, by omega, by omega, by show (0 : Nat) ≤ 100; omega, fun i' H3 hi' _ => by simp at hi', fun _ H3 k3 K3 Se3 => ?_⟩
    refine ⟨(by show 2 ≤ sizeLine; decide), fun te hte => ?_⟩
    have E3 : Td (upd H3 te (.tup [.int 0, .int (((0 : Nat) : Int) + 1)])) (.ref te) (eD 0) := .tup upd_same (.cons (.int 0) (.cons (.int _) .nil))
    have S3 : Same H3 (upd H3 te (.tup [.int 0, .int (((0 : Nat) : Int) + 1)])) := Same.new hte
    have F4 : ∀ b o, b ≠ md → b ≠ tl → H b = some o → (upd H3 te (.tup [.int 0, .int (((0 : Nat) : Int) + 1)])) b = some o := fun b o h1 h2 e => S3 _ _ (k3 _ _ h1 h2 (S2 _ _ e))
    have K4 : TKeep H (upd H3 te (.tup [.int 0, .int (((0 : Nat) : Int) + 1)])) := ((sameTk S2).trans K3).trans (sameTk S3)
    have Se4 : SeA P w T.C_Sealer (upd H3 te (.tup [.int 0, .int (((0 : Nat) : Int) + 1)])) p md tl (cDs wn.toNat f.toNat (0 + 1)) := Se3.same S3
    have W4 : (upd H3 te (.tup [.int 0, .int (((0 : Nat) : Int) + 1)])) wl = some (.lst [.ref tp]) := S3 _ _ (k3 _ _ nwm nwt W2)
    have P4 : TdAll (upd H3 te (.tup [.int 0, .int (((0 : Nat) : Int) + 1)])) [.ref tp] (pDs wn.toNat f.toNat (0 + 1)) := (P2.keep K3).keep (sameTk S3)
    show tSeq _ _ _ _ (upd H3 te (.tup [.int 0, .int (((0 : Nat) : Int) + 1)]))
    generalize (upd H3 te (.tup [.int 0, .int (((0 : Nat) : Int) + 1)])) = H4 at *
    have nsm : sh ≠ md := fun y => by rw [y, hm0] at hsh; exact (ins_mkd (Option.some.inj hsh).symm).elim
    have nst : sh ≠ tl := fun y => by rw [y, ht0] at hsh; cases hsh
    refine ⟨_, rfl, sh, T.C_Shape, dx, _, _, rfl, F4 _ _ nsm nst hsh, T.cl_Shape, T.na_Shape_depth, rfl, _, _, rfl, rfl, 1, d + 1, rfl, ⟨by omega, by omega, by omega, by omega⟩, for_range (n := (d + 1 - 1).toNat) (fun i σ H' => ∃ (cell te : Addr) (bk : Option V) (us : List V),
      σ = [some (.ref sh), some (.ref p), some (.ref cell), some (.ref wl), some (.ref te), bk] ∧ (∀ b o, b ≠ md → b ≠ tl → H b = some o → H' b = some o) ∧ TKeep H H' ∧ SeA P w T.C_Sealer H' p md tl (cDs wn.toNat f.toNat (i + 1)) ∧
      H' wl = some (.lst us) ∧ TdAll H' us (pDs wn.toNat f.toNat (i + 1)) ∧ Td H' (.ref te) (eD i)) ⟨t0, te, none, _, rfl, F4, K4, Se4, W4, P4, E3⟩ ?_ ?_⟩
    · rintro i σ H5 hi ⟨cell, te, bk, us, rfl, F5, K5, Se5, W5, P5, E5⟩
      rw [show (1 + (i : Int)) = ((i + 1 : Nat) : Int) by omega]
      have hG := cD_facts (w := wn.toNat) (f := f.toNat) (n := i + 1) (by omega) (by omega)
      have hsh5 := F5 _ _ nsm nst hsh
      refine ⟨_, rfl, (by show 1 ≤ sizeLine; decide), fun l2 hl2 => ?_⟩
      refine ⟨_, rfl, sh, T.C_Shape, dx, _, _, rfl, by rw [upd_ne (ne_of_none hsh5 hl2)]; exact hsh5, T.cl_Shape, T.na_Shape_fanout, rfl, ?_⟩
      refine ⟨l2, f, [V.ref te], rfl, rfl, upd_same, by omega, by omega, by show 1 * f.toNat ≤ sizeLine; simp only [sizeLine]; omega, fun l3 hl3 => ?_⟩
      rw [rep_one]
      refine ⟨l3, _, rfl, upd_same, by simp; omega, fun t1 ht1 => ?_⟩
      have S6 : Same H5 (upd (upd (upd H5 l2 (.lst [V.ref te])) l3 (.lst (List.replicate f.toNat (V.ref te)))) t1 (.tup (.str "node" :: List.replicate f.toNat (V.ref te)))) := (Same.new hl2).trans ((Same.new hl3).trans (Same.new ht1))
      have D6 : Td (upd (upd (upd H5 l2 (.lst [V.ref te])) l3 (.lst (List.replicate f.toNat (V.ref te)))) t1 (.tup (.str "node" :: List.replicate f.toNat (V.ref te)))) (.ref t1) (cD wn.toNat f.toNat (i + 1)) :=
        .tup upd_same (.cons (.str _ (by decide +kernel)) (TdAll.rep (E5.keep (sameTk S6)) _))
      generalize (upd (upd (upd H5 l2 (.lst [V.ref te])) l3 (.lst (List.replicate f.toNat (V.ref te)))) t1 (.tup (.str "node" :: List.replicate f.toNat (V.ref te)))) = H6 at *
      -- writes.append
      have W6 := S6 _ _ W5
      have P6 := P5.keep (sameTk S6)
      have hul : us.length = i + 1 := by have := P5.length; simpa [pDs] using this
      refine ⟨_, rfl, .inl ⟨rfl, _, SqL.of W6⟩, _, rfl, _, rfl, (by show 2 ≤ sizeLine; decide), fun tq htq => ?_⟩
      have S7 : Same H6 (upd H6 tq (.tup [.int ((i + 1 : Nat) : Int), .ref t1])) := Same.new htq
      have W7 := S7 _ _ W6
      refine ⟨wl, us, .ref tq, rfl, rfl, W7, small1000 (by omega), ?_⟩
      have Q7 : Td (upd H6 tq (.tup [.int ((i + 1 : Nat) : Int), .ref t1])) (.ref tq) (pD wn.toNat f.toNat (i + 1)) := .tup upd_same (.cons (.int _) (.cons (D6.keep (sameTk S7)) .nil))
      have P7 := P6.keep (sameTk S7)
      have D7 := D6.keep (sameTk S7)
      have T56 := S6.trans S7
      have F7 : ∀ b o, b ≠ md → b ≠ tl → H b = some o → (upd H6 tq (.tup [.int ((i + 1 : Nat) : Int), .ref t1])) b = some o := fun b o h1 h2 e => T56 _ _ (F5 _ _ h1 h2 e)
      have K7 := K5.trans (sameTk T56)
      have Se7 := Se5.same T56
      generalize (upd H6 tq (.tup [.int ((i + 1 : Nat) : Int), .ref t1])) = H7 at *
      have K8 : TKeep H7 (upd H7 wl (.lst (us ++ [.ref tq]))) := TKeep.upd W7
      have F8 : ∀ b o, b ≠ md → b ≠ tl → H b = some o → (upd H7 wl (.lst (us ++ [.ref tq]))) b = some o := fun b o h1 h2 e => by rw [upd_ne (ne_of_none e hwl0)]; exact F7 _ _ h1 h2 e
      have Se8 : SeA P w T.C_Sealer (upd H7 wl (.lst (us ++ [.ref tq]))) p md tl (cDs wn.toNat f.toNat (i + 1)) := Se7.keep K8 (fun o e => by rw [upd_ne nwp.symm]; exact e) (fun o e => by rw [upd_ne nwm.symm]; exact e) (fun o e => by rw [upd_ne nwt.symm]; exact e)
      have P8 : TdAll (upd H7 wl (.lst (us ++ [.ref tq]))) (us ++ [.ref tq]) (pDs wn.toNat f.toNat (i + 1 + 1)) := by rw [pDs_succ]; exact (P7.keep K8).snoc' (Q7.keep K8)
      have W8 : (upd H7 wl (.lst (us ++ [.ref tq]))) wl = some (.lst (us ++ [.ref tq])) := upd_same
      have D8 := D7.keep K8
      have K08 := K7.trans K8
      generalize (upd H7 wl (.lst (us ++ [.ref tq]))) = H8 at *
      -- entry
      obtain ⟨dx8, _, _, hp8, _⟩ := id Se8
      have hlc := cDs_len wn.toNat f.toNat (i + 1)
      refine ⟨_, rfl, _, rfl, p, _, _, rfl, hp8, rfl, _, rfl, p, md, tl, _, .ref t1, _, rfl, Se8, D8, hG.1, by omega, by omega, by omega, fun i' H9 hi' _ => absurd (List.mem_of_getElem? hi') (cD_new (by omega)), fun _ H9 k9 K9 Se9 => ?_⟩
      refine ⟨(by show 2 ≤ sizeLine; decide), fun te2 hte2 => ?_⟩
      rw [hlc]
      have S10 : Same H9 (upd H9 te2 (.tup [.int ((i + 1 : Nat) : Int), .int (((i + 1 : Nat) : Int) + 1)])) := Same.new hte2
      rw [← cDs_succ] at Se9
      exact ⟨t1, te2, _, _, rfl, fun b o h1 h2 e => S10 _ _ (k9 _ _ h1 h2 (F8 _ _ h1 h2 e)), (K08.trans K9).trans (sameTk S10), Se9.same S10, S10 _ _ (k9 _ _ nwm nwt W8), (P8.keep K9).keep (sameTk S10), .tup upd_same (.cons (.int _) (.cons (.int _) .nil))⟩
    · rintro σ H5 ⟨cell, te, bk, us, rfl, F5, K5, Se5, W5, P5, E5⟩
      have en : (d + 1 - 1).toNat = d.toNat := by omega
      rw [en] at Se5 P5 E5
      refine ⟨_, rfl, _, rfl, (by show 1 ≤ sizeLine; decide), fun a1 ha1 => ?_⟩
      refine ⟨(by show 3 ≤ sizeLine; decide), fun a2 ha2 => ?_⟩
      refine ⟨(by show 2 ≤ sizeLine; decide), fun a3 ha3 => ?_⟩
      have S6 := (Same.new (o := .tup [V.ref te]) ha1).trans ((Same.new (o := .tup [V.str "anchor", V.int 0, V.ref a1]) ha2).trans (Same.new (o := .tup [V.ref wl, V.ref a2]) ha3))
      have S7 := (Same.new (o := .tup [V.str "anchor", V.int 0, V.ref a1]) ha2).trans (Same.new (o := .tup [V.ref wl, V.ref a2]) ha3)
      have S8 := Same.new (o := .tup [V.ref wl, V.ref a2]) ha3
      exact k a3 wl a2 us _ (fun b o h1 h2 e => S6 _ _ (F5 _ _ h1 h2 e)) (K5.trans (sameTk S6)) (Se5.same S6) upd_same (S6 _ _ W5) hwl0 (P5.keep (sameTk S6))
        (.tup (S8 _ _ upd_same) (.cons (.str _ (by decide +kernel)) (.cons (.int 0) (.cons (.tup (S7 _ _ upd_same) (.cons (E5.keep (sameTk S6)) .nil)) .nil))))
end

section
variable {P : Program} {w : World} {K : PySem.W.Frag} {mg : Str → Option Value} {base : Heap}
theorem ok_state (T : Txt K mg) : FnOk P w K mg base CX0 1 T.f__law_state T.d__law_state p__law_state (spState K) := by
  refine T.F__law_state.ok sc__law_state (fun vs H Q E h => ?_) (fun cdv A outer s H vs Q E hr h => ?_)
  · obtain ⟨l, ns, rfl, _⟩ := h
    rfl
  · obtain ⟨l, ns, rfl, hS, hlen, k⟩ := h
    refine ⟨_, (pss_cons (ps_set (i := 1) sc__law_state.nd rfl (Or.inl rfl) pe_int)
      (pss_cons (ps_for PassesOwn.never rfl (pi_list (pv 0)) (pg_name (i := 2) sc__law_state.nd rfl (Or.inl rfl)) (pss_one (ps_set (i := 1) sc__law_state.nd rfl (Or.inl rfl) (pe_op op_modN (pe_callTy call_int1 (by rfl) T.z_int (by decide +kernel) (pa_cons (pe_op op_add (pe_op op_mul (pv 1) pe_int) (pv 2)) pa_nil)) pe_int))))
      (pss_one (ps_ret (pe_lst (pa_cons (pe_lc (own := [("cell", 2)]) (g := gName 2) (tt := tYes) rfl sc__law_state.nd (pi_list (pv 0)) (blkOk_by (N := n__law_state) (sc := defScope s__law_state) (by decide +kernel)) (fun _ _ _ _ _ => (pg_name (i := 2) sc__law_state.nd rfl (Or.inl rfl))) (fun _ _ _ _ _ => pts_nil) (fun _ _ _ _ _ => (pe_callB call_abs (by rfl) T.z_abs (by decide +kernel) (pa_cons (pv 2) pa_nil)))) (pa_cons (pe_op op_add (pv 1) pe_int) pa_nil))))))), ?_⟩
    refine ⟨_, rfl, l, rfl, ⟨_, hS⟩, for_list (K := K) (a := l) (xs := ns.map V.int) (fun i σ H' => ∃ (z : Int) (v : Option V), σ = [some (.ref l), some (.int z), v] ∧ H' = H ∧ 0 ≤ z ∧ z < 1000003)
      ⟨7, none, rfl, rfl, by decide, by decide⟩ (fun i σ H' _ ⟨_, _, _, e, _⟩ => e ▸ hS) ?_ ?_⟩
    · rintro i y σ H' hi ⟨z, v, rfl, rfl, h0, h1⟩
      obtain ⟨u, _, rfl⟩ := int_at hi
      refine ⟨_, rfl, _, _, rfl, rfl, .inl ⟨by omega, by omega⟩, _, rfl, _, _, rfl, rfl, .inl ⟨_, rfl, _, _, rfl, rfl, (by show (1000003 : Int) ≠ 0; decide), ?_⟩⟩
      exact ⟨_, _, rfl, rfl, by rw [Int.fmod_eq_emod_of_nonneg _ (by decide)]; omega, by rw [Int.fmod_eq_emod_of_nonneg _ (by decide)]; omega⟩
    · rintro σ H' ⟨z, v, rfl, rfl, h0, h1⟩
      refine ⟨_, rfl, l, rfl, ⟨_, hS⟩, fun D hD => lc_list (K := K) (xs := ns.map V.int) (fun i H2 => ∃ ms : List Int, H2 = upd H' D (.lst (ms.map V.int)) ∧ ms.length = i ∧ ∀ m ∈ ms, 0 ≤ m) ⟨[], rfl, rfl, by simp⟩ ?_ ?_ ?_⟩
      · rintro i H2 _ ⟨ms, rfl, _, _⟩
        exact Same.seq (fun b o e => by rw [upd_ne (ne_of_none e hD)]; exact e) hS
      · rintro i y H2 hi ⟨ms, rfl, hl, hp⟩
        obtain ⟨u, hu, rfl⟩ := int_at hi
        have hi2 : i < ns.length := (List.getElem?_eq_some_iff.mp hu).1
        refine ⟨rfl, _, rfl, _, rfl, _, upd_same, small1000 (by rw [List.length_map]; omega), ms ++ [if u < 0 then -u else u], ?_, by simp [hl], fun m hm => ?_⟩
        · rw [upd_upd, List.map_append]; rfl
        · rcases List.mem_append.mp hm with q | q
          · exact hp m q
          · rw [List.mem_singleton.mp q]; split <;> omega
      · rintro H2 ⟨ms, rfl, hl, hp⟩
        rw [List.length_map] at hl
        refine ⟨_, rfl, _, _, rfl, rfl, (by show 2 ≤ sizeLine; decide), fun a ha => ?_⟩
        have hD2 : D ≠ a := fun e => by rw [e, upd_same] at ha; cases ha
        refine k a D _ ?_ hD ⟨ms, _, hD2.symm, upd_same, by rw [upd_ne hD2, upd_same], by omega, hp, by omega, by omega⟩ fun b o e => ?_
        · rw [upd_ne hD2.symm] at ha
          exact ha
        · rw [upd_ne (fun q => ?_), upd_ne (ne_of_none e hD)]
          · exact e
          · rw [q] at e
            rw [upd_ne hD2.symm, e] at ha
            cases ha
theorem ok_draw (T : Txt K mg) : FnOk P w K mg base CX0 1 T.f__law_draw T.d__law_draw p__law_draw spDraw := by
  refine T.F__law_draw.ok sc__law_draw (fun vs H Q E h => ?_) (fun cdv A outer s H vs Q E hr h => ?_)
  · obtain ⟨a, c, m, rfl, _⟩ := h
    rfl
  · obtain ⟨a, c, m, rfl, hS, h1, h2, k⟩ := h
    have S0 := hS
    obtain ⟨ns, z, hac, ha, hc, hl, hp, z0, z1⟩ := hS
    refine ⟨_, (pss_cons (ps_set (i := 2) sc__law_draw.nd rfl (Or.inl rfl) (pe_ix ix_list (pv 0) pe_int (fun _ _ => rfl)))
      (pss_cons (ps_while PassesOwn.never (PW.pt (pw_and (pt_cmpR op_gt (pe_callB call_len_seq (by rfl) T.z_len PySem.boot_len (pa_cons (pv 2) pa_nil)) pe_int (nomark _)) (pw_and1 (pt_cmpR op_eq (pe_ix ix_list (pv 2) pe_int (fun _ _ => rfl)) pe_int (nomark _))))) (pss_one (ps_expr (pe_bm PySem.F.plainAttrs_list PySem.F.slot_list_pop PySem.F.type_list_pop mt_popAt (pv 2) (pa_cons pe_int pa_nil)))))
      (pss_cons (ps_if (pt_cmpR op_gt (pe_callB call_len_seq (by rfl) T.z_len PySem.boot_len (pa_cons (pv 2) pa_nil)) pe_int (nomark _)) (pss_cons (ps_set (i := 3) sc__law_draw.nd rfl (Or.inl rfl) (pe_ix ix_list (pv 2) pe_int (fun _ _ => rfl)))
      (pss_cons (ps_asg (pe_op op_fdivN (pv 3) (pv 1)) (pg_sub (pv 2) pe_int set_list))
      (pss_one (ps_ret (pe_op op_modN (pe_callTy call_int1 (by rfl) T.z_int (by decide +kernel) (pa_cons (pv 3) pa_nil)) (pv 1)))))) pss_nil)
      (pss_cons (ps_set (i := 4) sc__law_draw.nd rfl (Or.inl rfl) (pe_op op_modN (pe_callTy call_int1 (by rfl) T.z_int (by decide +kernel) (pa_cons (pe_op op_add (pe_op op_mul (pe_ix ix_list (pv 0) pe_int (fun _ _ => rfl)) pe_int) pe_int) pa_nil)) pe_int))
      (pss_cons (ps_asg (pv 4) (pg_sub (pv 0) pe_int set_list))
      (pss_one (ps_ret (pe_op op_modN (pe_callTy call_int1 (by rfl) T.z_int (by decide +kernel) (pa_cons (pe_op op_fdivN (pv 4) pe_int) pa_nil)) (pv 1))))))))), ?_⟩
    refine ⟨_, rfl, a, _, _, _, rfl, rfl, SqL.of ha, rfl, ?_⟩
    have hac' : c ≠ a := fun e => hac e.symm
    have hA : ∀ o, (upd H c o) a = some (.lst [.ref c, .int z]) := fun o => by rw [upd_ne hac]; exact ha
    have fin : ∀ (xs : List Int), xs.length ≤ 63 → (∀ n ∈ xs, 0 ≤ n) → StA a c (upd H c (.lst (xs.map V.int))) := fun xs q1 q2 => ⟨xs, z, hac, hA _, upd_same, q1, q2, z0, z1⟩
    have hm : m ≠ 0 := by omega
    have hmm : m.natAbs < 1073741824 := by omega
    refine ⟨fun n σ H' => ∃ (ns' : List Int), n = ns'.length ∧ σ = [some (.ref a), some (.int m), some (.ref c), none, none] ∧ H' = upd H c (.lst (ns'.map V.int)) ∧ ns'.length ≤ 63 ∧ ∀ n ∈ ns', 0 ≤ n,
      ⟨_, ns, rfl, rfl, (upd_eq hc).symm, hl, hp⟩, ?_⟩
    rintro n0 σ H' ⟨ns', rfl, rfl, rfl, hl', hp'⟩
    refine ⟨_, rfl, c, _, rfl, .inl (SqL.of upd_same), _, _, rfl, rfl, _, rfl, ?_⟩
    cases ns' with
    | nil =>
      refine iteF ?_
      refine iteF ?_
      refine ⟨_, rfl, c, _, rfl, .inl (SqL.of upd_same), _, _, rfl, rfl, _, rfl, ?_⟩
      refine iteF ?_
      refine ⟨_, rfl, a, _, _, _, rfl, rfl, SqL.of (hA _), rfl, _, _, rfl, rfl, .inl ⟨by omega, by omega⟩, _, _, rfl, rfl, .inl ⟨_, rfl, _, _, rfl, rfl, (by show (2147483647 : Int) ≠ 0; decide), ?_⟩⟩
      have q0 : 0 ≤ Int.fmod (z * 48271 + 12345) 2147483647 := by rw [Int.fmod_eq_emod_of_nonneg _ (by decide)]; omega
      have q1 : Int.fmod (z * 48271 + 12345) 2147483647 < 2147483647 := by rw [Int.fmod_eq_emod_of_nonneg _ (by decide)]; omega
      refine ⟨_, rfl, _, rfl, a, _, _, 1, rfl, rfl, hA _, rfl, ?_⟩
      refine ⟨_, rfl, _, _, rfl, rfl, ⟨by decide, by decide⟩, .inl ⟨_, rfl, _, rfl, _, _, rfl, rfl, hm, ?_⟩⟩
      refine k _ _ (by rw [Int.fmod_eq_emod_of_nonneg _ (by omega)]; exact Int.emod_nonneg _ hm) (by rw [Int.fmod_eq_emod_of_nonneg _ (by omega)]; exact Int.emod_lt_of_pos _ (by omega))
        ⟨[], Int.fmod (z * 48271 + 12345) 2147483647, hac, upd_same, by rw [upd_ne hac', upd_same], by decide, by simp, q0, q1⟩ (Kp.refl H).upd2.upd1
    | cons n r =>
      have n0 : 0 ≤ n := hp' n List.mem_cons_self
      have len0 : (0 : Int) < (((n :: r).map V.int).length : Nat) := by simp only [List.length_map, List.length_cons]; omega
      refine iteDT len0 ?_
      refine ⟨_, rfl, c, _, _, _, rfl, rfl, SqL.of upd_same, atI_nat (j := 0) rfl, rfl, _, rfl, ?_⟩
      refine ite2 (fun e => ?_) (fun e => ?_)
      · refine ⟨_, fun _ _ h => h, ?_⟩
        refine ⟨_, rfl, .inl ⟨rfl, _, SqL.of upd_same⟩, c, _, 0, 0, _, rfl, rfl, upd_same, by decide, by decide, seqIx_nat (j := 0) (by simp), rfl, ?_⟩
        refine ⟨r.length, Nat.lt_succ_self _, r, rfl, rfl, by rw [upd_upd]; rfl, by simp only [List.length_cons] at hl'; omega, fun x hx => hp' x (List.mem_cons_of_mem _ hx)⟩
      · refine ⟨_, rfl, c, _, rfl, .inl (SqL.of upd_same), _, _, rfl, rfl, _, rfl, ?_⟩
        refine iteDT len0 ?_
        refine ⟨_, rfl, c, _, _, _, rfl, rfl, SqL.of upd_same, atI_nat (j := 0) rfl, ?_⟩
        refine ⟨_, rfl, _, rfl, _, _, rfl, rfl, ⟨hm, hmm⟩, _, rfl, c, _, _, 0, rfl, rfl, upd_same, ixN_nat (j := 0) (by simp), ?_⟩
        refine ⟨_, rfl, .inl ⟨_, rfl, _, rfl, _, _, rfl, rfl, hm, ?_⟩⟩
        refine k _ _ (by rw [Int.fmod_eq_emod_of_nonneg _ (by omega)]; exact Int.emod_nonneg _ hm) (by rw [Int.fmod_eq_emod_of_nonneg _ (by omega)]; exact Int.emod_lt_of_pos _ (by omega))
          ?_ (Kp.refl H).upd2.upd2
        rw [upd_upd]
        refine fin (n.fdiv m :: r) hl' fun x hx => ?_
        rcases List.mem_cons.mp hx with rfl | hx
        · rw [Int.fdiv_eq_ediv_of_nonneg _ (by omega)]
          exact Int.ediv_nonneg n0 (by omega)
        · exact hp' x (List.mem_cons_of_mem _ hx)

theorem ok_LB (T : Txt K mg) : FnOk P w K mg base CX0 1 T.f_leaves_below T.d_leaves_below p_leaves_below spLB := by
  refine T.F_leaves_below.ok sc_leaves_below (fun vs H Q E h => ?_) (fun cdv A outer s H vs Q E hr h => ?_)
  · obtain ⟨f, d, rfl, _⟩ := h
    rfl
  · obtain ⟨f, d, rfl, f2, f4, d0, d6, k⟩ := h
    refine ⟨_, (pss_cons (ps_set (i := 2) sc_leaves_below.nd rfl (Or.inl rfl) pe_int)
      (pss_cons (ps_for PassesOwn.never rfl (pi_range1 rfl T.z_range (pa_cons (pv 1) pa_nil)) (pg_name (i := 3) sc_leaves_below.nd rfl (Or.inl rfl)) (pss_one (ps_set (i := 2) sc_leaves_below.nd rfl (Or.inl rfl) (pe_op op_mul (pv 2) (pv 0)))))
      (pss_one (ps_ret (pv 2))))), ?_⟩
    refine ⟨_, rfl, _, rfl, by omega, by omega, for_range (n := d.toNat) (fun i σ H' => ∃ (n : Int) (v : Option V), σ = [some (.int f), some (.int d), some (.int n), v] ∧ H' = H ∧ n = f ^ i) ⟨1, none, rfl, rfl, (Int.pow_zero f).symm⟩ ?_ ?_⟩
    · rintro i σ H' hi ⟨n, v, rfl, rfl, e⟩
      exact ⟨_, rfl, _, rfl, _, _, rfl, rfl, .inr ⟨by omega, by omega⟩, _, _, rfl, rfl, by rw [e]; exact (Int.pow_succ f i).symm⟩
    · rintro σ H' ⟨n, v, rfl, rfl, e⟩
      exact ⟨_, rfl, e ▸ k⟩
theorem ok_Dp (T : Txt K mg) : FnOk P w K mg base CX0 2 T.f_is_depth T.d_is_depth p_is_depth spDp := by
  have G_leaves_below : FnOk P w K mg base CX0 1 T.f_leaves_below T.d_leaves_below p_leaves_below spLB := ok_LB T
  refine T.F_is_depth.ok sc_is_depth (fun vs H Q E h => ?_) (fun cdv A outer s H vs Q E hr h => ?_)
  · obtain ⟨f, d, rfl, _⟩ := h
    rfl
  · obtain ⟨f, d, rfl, f2, f4, k⟩ := h
    refine ⟨_, (pss_one (ps_ret (pe_and (pe_chain op_le op_le pe_int (pv 1) (pe_glob (v := V.int 6) rfl T.mg_MOST_DEPTH ⟨_, rfl⟩)) (pe_one (pe_cmpR op_le (pe_call G_leaves_below (hr.mono (by decide)) rfl T.mg_leaves_below T.F_leaves_below.kp T.b_leaves_below .nil pass0 (pa_cons (pv 0) (pa_cons (pv 1) pa_nil))) (pe_glob (v := V.int 64) rfl T.mg_MOST_LEAVES ⟨_, rfl⟩) (nomark _)))))), ?_⟩
    -- 1 <= depth <= MOST_DEPTH
    refine ⟨_, rfl, _, _, rfl, rfl, _, rfl, ?_⟩
    refine ite2 (fun a => ?_) (fun a => ?_)
    · have a := of_decide_eq_true a
      refine ⟨_, _, rfl, rfl, _, rfl, ?_⟩
      refine ite2 (fun b => ?_) (fun b => ?_)
      · have b := of_decide_eq_true b
        refine ⟨_, rfl, _, rfl, _, _, rfl, f2, f4, by omega, b, ?_⟩
        refine ⟨_, _, rfl, rfl, ?_⟩
        exact k _ ⟨fun z => ⟨a, b, of_decide_eq_true z⟩, fun z => decide_eq_true z.2.2⟩
      · exact k _ ⟨fun z => (Bool.false_ne_true z).elim, fun z => (b (decide_eq_true z.2.1)).elim⟩
    · refine ⟨_, rfl, ?_⟩
      refine iteF ?_
      exact k _ ⟨fun z => (Bool.false_ne_true z).elim, fun z => (a (decide_eq_true z.1)).elim⟩
theorem ok_oor (T : Txt K mg) : FnOk P w K mg base CX0 3 T.f_out_of_range T.d_out_of_range p_out_of_range (spOor T.C_Shape) := by
  have G_is_depth : FnOk P w K mg base CX0 2 T.f_is_depth T.d_is_depth p_is_depth spDp := ok_Dp T
  refine T.F_out_of_range.ok sc_out_of_range (fun vs H Q E h => ?_) (fun cdv A outer s H vs Q E hr h => ?_)
  · obtain ⟨p, f, d, w, b, s, rfl, _⟩ := h
    rfl
  · obtain ⟨p, f, d, w, b, s, rfl, ⟨dx, hp⟩, k⟩ := h
    refine ⟨_, (pss_cons (ps_if (pt_not (pt_chain op_le op_le pe_int (pe_fld (pv 0) rfl) pe_int)) (pss_one (ps_ret pe_str)) pss_nil)
      (pss_cons (ps_if (pt_not (pt_truth (pe_call G_is_depth (hr.mono (by decide)) rfl T.mg_is_depth T.F_is_depth.kp T.b_is_depth .nil pass0 (pa_cons (pe_fld (pv 0) rfl) (pa_cons (pe_fld (pv 0) rfl) pa_nil))) (by intro _; rfl))) (pss_one (ps_ret pe_str)) pss_nil)
      (pss_cons (ps_if (pt_not (pt_chain op_le op_le pe_int (pe_fld (pv 0) rfl) pe_int)) (pss_one (ps_ret pe_str)) pss_nil)
      (pss_cons (ps_if (pt_not (pt_chain op_le op_le (pe_op op_add (pe_fld (pv 0) rfl) pe_int) (pe_fld (pv 0) rfl) (pe_glob (v := V.int 1000) rfl T.mg_MOST_BLOCKS ⟨_, rfl⟩))) (pss_one (ps_ret pe_str)) pss_nil)
      (pss_cons (ps_if (pt_not (pt_chain op_le op_le pe_int (pe_fld (pv 0) rfl) pe_int)) (pss_one (ps_ret pe_str)) pss_nil)
      (pss_one (ps_ret pe_non))))))), ?_⟩
    refine ⟨_, rfl, p, T.C_Shape, dx, _, _, rfl, hp, T.cl_Shape, T.na_Shape_fanout, rfl, _, _, rfl, rfl, ?_⟩
    have fin : ∀ {x : Option Str} {v : V}, oor f d w b s = x → v = optS x → Q v H := fun {x v} e1 e2 => by
      rw [e2, ← e1]; exact k
    have Bad1 : ¬ (2 ≤ f ∧ f ≤ 4) → oor f d w b s = some ("fanout" : Str) := fun z => by unfold oor; rw [if_pos z]
    refine ⟨_, rfl, ite2 (fun a => ?_) (fun a => ?_)⟩
    case' refine_2 => exact ⟨_, rfl, iteT (fin (Bad1 fun z => a (decide_eq_true z.1)) rfl)⟩
    have a := of_decide_eq_true a
    refine ⟨_, _, rfl, rfl, _, rfl, ite2 (fun c => ?_) (fun c => ?_)⟩
    case' refine_1 => exact fin (Bad1 fun z => (by rw [decide_eq_true z.2] at c; exact absurd c (by decide))) rfl
    have f1 : 2 ≤ f ∧ f ≤ 4 := ⟨a, by cases e : decide (f ≤ 4) with | true => exact of_decide_eq_true e | false => rw [e] at c; exact absurd rfl c⟩
    clear a c
    -- not is_depth(shape.fanout, shape.depth)
    have Bad2 : ¬ (1 ≤ d ∧ d ≤ 6 ∧ f ^ d.toNat ≤ 64) → oor f d w b s = some ("depth" : Str) := fun z => by unfold oor; rw [if_neg (not_not_intro f1), if_pos z]
    refine ⟨_, rfl, p, T.C_Shape, dx, _, _, rfl, hp, T.cl_Shape, T.na_Shape_fanout, rfl, _, rfl, p, T.C_Shape, dx, _, _, rfl, hp, T.cl_Shape, T.na_Shape_depth, rfl, f, d, rfl, f1.1, f1.2, fun r hr2 => ⟨_, rfl, ?_⟩⟩
    cases r with
    | false => exact iteT (fin (Bad2 fun z => Bool.false_ne_true (hr2.mpr z)) rfl)
    | true =>
    have f2 := hr2.mp rfl
    refine iteF ?_
    clear hr2
    have Bad3 : ¬ (1 ≤ w ∧ w ≤ 4) → oor f d w b s = some ("words" : Str) := fun z => by unfold oor; rw [if_neg (not_not_intro f1), if_neg (not_not_intro f2), if_pos z]
    refine ⟨_, rfl, p, T.C_Shape, dx, _, _, rfl, hp, T.cl_Shape, T.na_Shape_words, rfl, _, _, rfl, rfl, _, rfl, ite2 (fun a => ?_) (fun a => ?_)⟩
    case' refine_2 => exact ⟨_, rfl, iteT (fin (Bad3 fun z => a (decide_eq_true z.1)) rfl)⟩
    have a := of_decide_eq_true a
    refine ⟨_, _, rfl, rfl, _, rfl, ite2 (fun c => ?_) (fun c => ?_)⟩
    case' refine_1 => exact fin (Bad3 fun z => (by rw [decide_eq_true z.2] at c; exact absurd c (by decide))) rfl
    have f3 : 1 ≤ w ∧ w ≤ 4 := ⟨a, by cases e : decide (w ≤ 4) with | true => exact of_decide_eq_true e | false => rw [e] at c; exact absurd rfl c⟩
    clear a c
    have Bad4 : ¬ (d + 1 ≤ b ∧ b ≤ 1000) → oor f d w b s = some ("blocks" : Str) := fun z => by unfold oor; rw [if_neg (not_not_intro f1), if_neg (not_not_intro f2), if_neg (not_not_intro f3), if_pos z]
    refine ⟨_, rfl, p, T.C_Shape, dx, _, _, rfl, hp, T.cl_Shape, T.na_Shape_depth, rfl, _, _, rfl, rfl, _, rfl, p, T.C_Shape, dx, _, _, rfl, hp, T.cl_Shape, T.na_Shape_blocks, rfl, _, _, rfl, rfl, _, rfl, ite2 (fun a => ?_) (fun a => ?_)⟩
    case' refine_2 => exact ⟨_, rfl, iteT (fin (Bad4 fun z => a (decide_eq_true z.1)) rfl)⟩
    have a := of_decide_eq_true a
    refine ⟨_, _, rfl, rfl, _, rfl, ite2 (fun c => ?_) (fun c => ?_)⟩
    case' refine_1 => exact fin (Bad4 fun z => (by rw [decide_eq_true z.2] at c; exact absurd c (by decide))) rfl
    have f4 : d + 1 ≤ b ∧ b ≤ 1000 := ⟨a, by cases e : decide (b ≤ 1000) with | true => exact of_decide_eq_true e | false => rw [e] at c; exact absurd rfl c⟩
    clear a c
    have Bad5 : ¬ (0 ≤ s ∧ s ≤ 3) → oor f d w b s = some ("snapshots" : Str) := fun z => by unfold oor; rw [if_neg (not_not_intro f1), if_neg (not_not_intro f2), if_neg (not_not_intro f3), if_neg (not_not_intro f4), if_pos z]
    refine ⟨_, rfl, p, T.C_Shape, dx, _, _, rfl, hp, T.cl_Shape, T.na_Shape_snapshots, rfl, _, _, rfl, rfl, _, rfl, ite2 (fun a => ?_) (fun a => ?_)⟩
    case' refine_2 => exact ⟨_, rfl, iteT (fin (Bad5 fun z => a (decide_eq_true z.1)) rfl)⟩
    have a := of_decide_eq_true a
    refine ⟨_, _, rfl, rfl, _, rfl, ite2 (fun c => ?_) (fun c => ?_)⟩
    case' refine_1 => exact fin (Bad5 fun z => (by rw [decide_eq_true z.2] at c; exact absurd c (by decide))) rfl
    have f5 : 0 ≤ s ∧ s ≤ 3 := ⟨a, by cases e : decide (s ≤ 3) with | true => exact of_decide_eq_true e | false => rw [e] at c; exact absurd rfl c⟩
    exact fin (by unfold oor; rw [if_neg (not_not_intro f1), if_neg (not_not_intro f2), if_neg (not_not_intro f3), if_neg (not_not_intro f4), if_neg (not_not_intro f5)]) rfl
theorem ok_leaves (T : Txt K mg) : FnOk P w K mg base CX0 2 T.f_Shape_leaves T.d_Shape_leaves p_Shape_leaves (spLeaves T.C_Shape) := by
  have G_leaves_below : FnOk P w K mg base CX0 1 T.f_leaves_below T.d_leaves_below p_leaves_below spLB := ok_LB T
  refine T.F_Shape_leaves.ok sc_Shape_leaves (fun vs H Q E h => ?_) (fun cdv A outer s H vs Q E hr h => ?_)
  · obtain ⟨p, f, d, w, b, s, rfl, _⟩ := h
    rfl
  · obtain ⟨p, f, d, w, b, s, rfl, ⟨dx, hp⟩, ⟨h1, h2, h3, h4, _⟩, k⟩ := h
    refine ⟨_, (pss_one (ps_ret (pe_call G_leaves_below (hr.mono (by decide)) rfl T.mg_leaves_below T.F_leaves_below.kp T.b_leaves_below .nil pass0 (pa_cons (pe_fld (pv 0) rfl) (pa_cons (pe_fld (pv 0) rfl) pa_nil))))), ?_⟩
    exact ⟨_, rfl, p, T.C_Shape, dx, _, _, rfl, hp, T.cl_Shape, T.na_Shape_fanout, rfl, _, rfl, p, T.C_Shape, dx, _, _, rfl, hp, T.cl_Shape, T.na_Shape_depth, rfl, f, d, rfl, h1, h2, by omega, h4, k⟩
theorem ok_Shape (T : Txt K mg) : FnOk P w K mg base CX0 4 T.f_Shape___init__ T.d_Shape___init__ p_Shape___init__ (spShape T.C_Shape) := by
  have G_out_of_range : FnOk P w K mg base CX0 3 T.f_out_of_range T.d_out_of_range p_out_of_range (spOor T.C_Shape) := ok_oor T
  refine T.F_Shape___init__.ok sc_Shape___init__ (fun vs H Q E h => ?_) (fun cdv A outer s H vs Q E hr h => ?_)
  · obtain ⟨p, dx, f, d, w, b, s, rfl, _⟩ := h
    rfl
  · obtain ⟨p, dx, f, d, w, b, s, rfl, hp, ok, k⟩ := h
    refine ⟨_, (pss_cons (ps_fld (pv 0) (pv 1) rfl)
      (pss_cons (ps_fld (pv 0) (pv 2) rfl)
      (pss_cons (ps_fld (pv 0) (pv 3) rfl)
      (pss_cons (ps_fld (pv 0) (pv 4) rfl)
      (pss_cons (ps_fld (pv 0) (pv 5) rfl)
      (pss_cons (ps_set (i := 6) sc_Shape___init__.nd rfl (Or.inl rfl) (pe_call G_out_of_range (hr.mono (by decide)) rfl T.mg_out_of_range T.F_out_of_range.kp T.b_out_of_range .nil pass0 (pa_cons (pv 0) pa_nil)))
      (pss_one (ps_if (pt_cmpR op_notN (pv 6) pe_non (nomark _)) (pss_one ps_never) pss_nil)))))))), ?_⟩
    refine ⟨_, rfl, _, rfl, p, T.C_Shape, dx, _, rfl, hp, T.cl_Shape, T.na_Shape_fanout, (by show 0 < 1000; decide), ?_⟩
    refine ⟨_, rfl, _, rfl, p, T.C_Shape, dx, _, rfl, upd_same, T.cl_Shape, T.na_Shape_depth, (by show 1 < 1000; decide), ?_⟩
    refine ⟨_, rfl, _, rfl, p, T.C_Shape, dx, _, rfl, upd_same, T.cl_Shape, T.na_Shape_words, (by show 2 < 1000; decide), ?_⟩
    refine ⟨_, rfl, _, rfl, p, T.C_Shape, dx, _, rfl, upd_same, T.cl_Shape, T.na_Shape_blocks, (by show 3 < 1000; decide), ?_⟩
    refine ⟨_, rfl, _, rfl, p, T.C_Shape, dx, _, rfl, upd_same, T.cl_Shape, T.na_Shape_snapshots, (by show 4 < 1000; decide), ?_⟩
    rw [upd_upd, upd_upd, upd_upd, upd_upd]
    refine ⟨_, rfl, p, f, d, w, b, s, rfl, ⟨dx, upd_same⟩, ?_⟩
    obtain ⟨h1, h2, h3, h4, h5, h6, h7, h8, h9, h10, h11⟩ := ok
    have e : oor f d w b s = none := by
      unfold oor
      rw [if_neg (not_not_intro ⟨h1, h2⟩), if_neg (not_not_intro ⟨h3, h4, h5⟩), if_neg (not_not_intro ⟨h6, h7⟩), if_neg (not_not_intro ⟨h8, h9⟩), if_neg (not_not_intro ⟨h10, h11⟩)]
    rw [e]
    refine ⟨_, rfl, rfl, _, rfl, ?_⟩
    exact iteF k

theorem ok_lshape (T : Txt K mg) : FnOk P w K mg base CX0 6 T.f__law_shape T.d__law_shape p__law_shape (spLShape T.C_Shape) := by
  have G__law_draw : FnOk P w K mg base CX0 1 T.f__law_draw T.d__law_draw p__law_draw spDraw := ok_draw T
  have G_Shape___init__ : FnOk P w K mg base CX0 4 T.f_Shape___init__ T.d_Shape___init__ p_Shape___init__ (spShape T.C_Shape) := ok_Shape T
  refine T.F__law_shape.ok sc__law_shape (fun vs H Q E h => ?_) (fun cdv A outer s H vs Q E hr h => ?_)
  · obtain ⟨a, c, j, rfl, _⟩ := h
    rfl
  · obtain ⟨a, c, j, rfl, S0, j0, j2, k⟩ := h
    refine ⟨_, (pss_cons (ps_set (i := 2) sc__law_shape.nd rfl (Or.inl rfl) (pe_op op_add pe_int (pe_call G__law_draw (hr.mono (by decide)) rfl T.mg__law_draw T.F__law_draw.kp T.b__law_draw .nil pass0 (pa_cons (pv 0) (pa_cons pe_int pa_nil)))))
      (pss_cons (ps_set (i := 3) sc__law_shape.nd rfl (Or.inl rfl) (pe_op op_add pe_int (pe_call G__law_draw (hr.mono (by decide)) rfl T.mg__law_draw T.F__law_draw.kp T.b__law_draw .nil pass0 (pa_cons (pv 0) (pa_cons (pe_ix ix_list (pe_lst (pa_cons pe_int (pa_cons pe_int (pa_cons pe_int pa_nil)))) (pe_op op_sub (pv 2) pe_int) (fun _ _ => rfl)) pa_nil)))))
      (pss_cons (ps_set (i := 4) sc__law_shape.nd rfl (Or.inl rfl) (pe_op op_add pe_int (pe_call G__law_draw (hr.mono (by decide)) rfl T.mg__law_draw T.F__law_draw.kp T.b__law_draw .nil pass0 (pa_cons (pv 0) (pa_cons pe_int pa_nil)))))
      (pss_cons (ps_set (i := 5) sc__law_shape.nd rfl (Or.inl rfl) (pe_call G__law_draw (hr.mono (by decide)) rfl T.mg__law_draw T.F__law_draw.kp T.b__law_draw .nil pass0 (pa_cons (pv 0) (pa_cons pe_int pa_nil))))
      (pss_cons (ps_set (i := 6) sc__law_shape.nd rfl (Or.inl rfl) pe_int)
      (pss_cons (ps_set (i := 7) sc__law_shape.nd rfl (Or.inl rfl) pe_int)
      (pss_cons (ps_for PassesOwn.never rfl (pi_range1 rfl T.z_range (pa_cons (pe_op op_add (pv 3) pe_int) pa_nil)) (pg_name (i := 8) sc__law_shape.nd rfl (Or.inl rfl)) (pss_cons (ps_set (i := 6) sc__law_shape.nd rfl (Or.inl rfl) (pe_op op_add (pv 6) (pv 7)))
      (pss_one (ps_set (i := 7) sc__law_shape.nd rfl (Or.inl rfl) (pe_op op_mul (pv 7) (pv 2))))))
      (pss_cons (ps_set (i := 9) sc__law_shape.nd rfl (Or.inl rfl) (pe_op op_mul (pe_op op_add (pv 5) pe_int) (pv 6)))
      (pss_cons (ps_set (i := 10) sc__law_shape.nd rfl (Or.inl rfl) (pe_callB (call_min2 rfl) (by rfl) T.z_min (by decide +kernel) (pa_cons pe_int (pa_cons (pe_ix ix_list (pe_lst (pa_cons (pv 9) (pa_cons (pe_op op_add (pv 9) (pe_call G__law_draw (hr.mono (by decide)) rfl T.mg__law_draw T.F__law_draw.kp T.b__law_draw .nil pass0 (pa_cons (pv 0) (pa_cons pe_int pa_nil)))) (pa_cons (pe_callB (call_max2 rfl) (by rfl) T.z_max (by decide +kernel) (pa_cons (pe_op op_add (pv 3) pe_int) (pa_cons (pe_op op_sub (pv 9) (pe_call G__law_draw (hr.mono (by decide)) rfl T.mg__law_draw T.F__law_draw.kp T.b__law_draw .nil pass0 (pa_cons (pv 0) (pa_cons (pv 9) pa_nil)))) pa_nil))) pa_nil)))) (pv 1) (fun _ _ => rfl)) pa_nil))))
      (pss_one (ps_ret (pe_makeK0 T.M_Shape G_Shape___init__ (hr.mono (by decide)) rfl T.mg_Shape T.kb_Shape pass0 (pk_cons (pv 2) (pk_cons (pv 3) (pk_cons (pv 4) (pk_cons (pv 10) (pk_cons (pv 5) pk_nil))))))))))))))))), ?_⟩
    -- fanout, depth, words, snapshots
    refine ⟨_, rfl, a, c, 3, rfl, S0, by decide, by decide, fun r1 H1 a1 b1 S1 K1 => ⟨_, _, rfl, rfl, ?_⟩⟩
    obtain ⟨dm, hd0, hd1, hd2⟩ : ∃ dm : Int, ([V.int 6, .int 3, .int 3] : List V)[r1.toNat]? = some (.int dm) ∧ 1 ≤ dm ∧ ∀ e : Int, 0 ≤ e → e < dm → 1 ≤ 1 + e ∧ 1 + e ≤ 6 ∧ (2 + r1) ^ (1 + e).toNat ≤ 64 := by
      have q : r1 = 0 ∨ r1 = 1 ∨ r1 = 2 := by omega
      rcases q with rfl | rfl | rfl
      · refine ⟨6, rfl, by decide, fun e e0 e1 => ⟨by omega, by omega, ?_⟩⟩
        have z : e = 0 ∨ e = 1 ∨ e = 2 ∨ e = 3 ∨ e = 4 ∨ e = 5 := by omega
        rcases z with rfl | rfl | rfl | rfl | rfl | rfl <;> decide
      · refine ⟨3, rfl, by decide, fun e e0 e1 => ⟨by omega, by omega, ?_⟩⟩
        have z : e = 0 ∨ e = 1 ∨ e = 2 := by omega
        rcases z with rfl | rfl | rfl <;> decide
      · refine ⟨3, rfl, by decide, fun e e0 e1 => ⟨by omega, by omega, ?_⟩⟩
        have z : e = 0 ∨ e = 1 ∨ e = 2 := by omega
        rcases z with rfl | rfl | rfl <;> decide
    refine ⟨_, rfl, (by show 3 ≤ sizeLine; decide), fun l hl => ?_⟩
    have L1 : StA a c (upd H1 l (.lst [.int 6, .int 3, .int 3])) := S1.keep (Same.new hl)
    have K1' : Kp a c H (upd H1 l (.lst [.int 6, .int 3, .int 3])) := K1.trans (Kp.same (Same.new hl))
    refine ⟨_, rfl, _, _, rfl, rfl, l, _, _, _, rfl, rfl, SqL.of upd_same, at_of (j := r1.toNat) (by show 2 + r1 - 2 = _; omega) hd0, ?_⟩
    refine ⟨a, c, dm, rfl, L1, hd1, ?_, fun r2 H2 a2 b2 S2 K2 => ⟨_, _, rfl, rfl, ?_⟩⟩
    · have q : r1 = 0 ∨ r1 = 1 ∨ r1 = 2 := by omega
      rcases q with rfl | rfl | rfl <;> (simp at hd0; omega)
    obtain ⟨dd1, dd2, dd3⟩ := hd2 r2 a2 b2
    refine ⟨_, rfl, a, c, 4, rfl, S2, by decide, by decide, fun r3 H3 a3 b3 S3 K3 => ⟨_, _, rfl, rfl, ?_⟩⟩
    refine ⟨_, rfl, a, c, 4, rfl, S3, by decide, by decide, fun r4 H4 a4 b4 S4 K4 => ?_⟩
    have K04 : Kp a c H H4 := K1'.trans (K2.trans (K3.trans K4))
    clear K1 K1' K2 K3 K4 L1 S1 S2 S3 S0 hd2 hd0
    obtain ⟨cl, ch⟩ := cN_bd (f := 2 + r1) (n := (1 + r2).toNat) (by omega) (by omega) (by omega) (by omega) dd3
    -- the cells
    refine ⟨_, rfl, _, _, rfl, rfl, _, rfl, by omega, by omega, for_range (n := (1 + r2 + 1).toNat) (fun i σ H' => ∃ (x y : Int) (v : Option V), σ = [some (.ref a), some (.int j), some (.int (2 + r1)), some (.int (1 + r2)), some (.int (1 + r3)), some (.int r4), some (.int x), some (.int y), v, none, none] ∧ H' = H4 ∧ x = cN (2 + r1) i ∧ y = (2 + r1) ^ i)
      ⟨0, 1, none, rfl, rfl, rfl, (Int.pow_zero _).symm⟩ ?_ ?_⟩
    · rintro i σ H' hi ⟨x, y, v, rfl, rfl, ex, ey⟩
      refine ⟨_, rfl, _, rfl, _, _, rfl, rfl, ?_⟩
      refine ⟨_, rfl, _, rfl, _, _, rfl, rfl, .inr ⟨by omega, by omega⟩, _, _, _, rfl, rfl, by rw [ex, ey]; rfl, by rw [ey]; exact (Int.pow_succ _ i).symm⟩
    rintro σ H' ⟨x, y, v, rfl, rfl, ex, ey⟩
    rw [show (1 + r2 + 1).toNat = (1 + r2).toNat + 1 by omega] at ex
    have hA : 1 + r2 + 1 ≤ (r4 + 2) * x ∧ (r4 + 2) * x ≤ 635 := by
      rw [← ex] at cl ch
      have q : r4 = 0 ∨ r4 = 1 ∨ r4 = 2 ∨ r4 = 3 := by omega
      rcases q with rfl | rfl | rfl | rfl <;> omega
    refine ⟨_, rfl, _, _, rfl, rfl, _, rfl, _, _, rfl, rfl, .inl ⟨by omega, by omega⟩, ?_⟩
    -- the number of blocks
    refine ⟨_, rfl, _, rfl, _, rfl, a, c, 9, rfl, S4, by decide, by decide, fun r5 H5 a5 b5 S5 K5 => ⟨_, _, rfl, rfl, ?_⟩⟩
    refine ⟨_, rfl, _, _, rfl, rfl, _, rfl, _, rfl, _, rfl, a, c, ((r4 + 2) * x), rfl, S5, by omega, by omega, fun r6 H6 a6 b6 S6 K6 => ⟨_, _, rfl, rfl, _, _, rfl, ?_⟩⟩
    refine ⟨(by show 3 ≤ sizeLine; decide), fun l2 hl2 => ?_⟩
    obtain ⟨bv, hb0, hb1, hb2⟩ : ∃ bv : Int, ([V.int ((r4 + 2) * x), .int (((r4 + 2) * x) + r5), .int (if ((r4 + 2) * x) - r6 > 1 + r2 + 1 then ((r4 + 2) * x) - r6 else 1 + r2 + 1)] : List V)[j.toNat]? = some (.int bv) ∧ 1 + r2 + 1 ≤ bv ∧ (j = 0 → bv = ((r4 + 2) * x)) := by
      have q : j = 0 ∨ j = 1 ∨ j = 2 := by omega
      rcases q with rfl | rfl | rfl
      · exact ⟨((r4 + 2) * x), rfl, hA.1, fun _ => rfl⟩
      · exact ⟨((r4 + 2) * x) + r5, rfl, by omega, fun z => by omega⟩
      · refine ⟨_, rfl, ?_, fun z => by omega⟩
        split <;> omega
    refine ⟨_, rfl, l2, _, _, _, rfl, rfl, SqL.of upd_same, at_of (j := j.toNat) (by omega) hb0, _, _, rfl, ?_⟩
    have L6 : StA a c (upd H6 l2 (.lst [.int ((r4 + 2) * x), .int (((r4 + 2) * x) + r5), .int (if ((r4 + 2) * x) - r6 > 1 + r2 + 1 then ((r4 + 2) * x) - r6 else 1 + r2 + 1)])) := S6.keep (Same.new hl2)
    have K6' : Kp a c H (upd H6 l2 (.lst [.int ((r4 + 2) * x), .int (((r4 + 2) * x) + r5), .int (if ((r4 + 2) * x) - r6 > 1 + r2 + 1 then ((r4 + 2) * x) - r6 else 1 + r2 + 1)])) := K04.trans (K5.trans (K6.trans (Kp.same (Same.new hl2))))
    refine ⟨_, rfl, _, rfl, _, rfl, _, rfl, _, rfl, rfl, rfl, fun p dx hp hdx nex => ?_⟩
    have hB : 1 + r2 + 1 ≤ (if bv < 1000 then bv else 1000) ∧ (if bv < 1000 then bv else 1000) ≤ 1000 ∧ (j = 0 → (if bv < 1000 then bv else 1000) = ((r4 + 2) * x)) := by
      refine ⟨?_, ?_, fun z => ?_⟩
      · split <;> omega
      · split <;> omega
      · rw [hb2 z, if_pos (by have := hA.2; omega)]
    have hq : p ≠ dx := fun e => nex e.symm
    refine ⟨p, dx, _, _, _, _, _, rfl, upd_same, ⟨by omega, by omega, dd1, dd2, dd3, by omega, by omega, ?_, ?_, a4, by omega⟩, rfl, ?_⟩
    · exact hB.1
    · exact hB.2.1
    have pa : ∀ {b : Addr} {o : HO}, (upd H6 l2 (.lst [.int ((r4 + 2) * x), .int (((r4 + 2) * x) + r5), .int (if ((r4 + 2) * x) - r6 > 1 + r2 + 1 then ((r4 + 2) * x) - r6 else 1 + r2 + 1)])) b = some o → b ≠ p ∧ b ≠ dx := fun e => ⟨ne_of_none e hp, ne_of_none e hdx⟩
    have SS : Same (upd H6 l2 (.lst [.int ((r4 + 2) * x), .int (((r4 + 2) * x) + r5), .int (if ((r4 + 2) * x) - r6 > 1 + r2 + 1 then ((r4 + 2) * x) - r6 else 1 + r2 + 1)])) (upd (upd (upd (upd H6 l2 (.lst [.int ((r4 + 2) * x), .int (((r4 + 2) * x) + r5), .int (if ((r4 + 2) * x) - r6 > 1 + r2 + 1 then ((r4 + 2) * x) - r6 else 1 + r2 + 1)])) dx (.own p)) p (.ins T.C_Shape dx [])) p (.ins T.C_Shape dx (shF (2 + r1) (1 + r2) (1 + r3) (if bv < 1000 then bv else 1000) r4))) := fun b o e => by
      rw [upd_ne (pa e).1, upd_ne (pa e).1, upd_ne (pa e).2]; exact e
    refine k p (2 + r1) (1 + r2) (1 + r3) (if bv < 1000 then bv else 1000) r4 _ ?_ ⟨dx, upd_same⟩ ⟨by omega, by omega, dd1, dd2, dd3, by omega, by omega, by exact hB.1, by exact hB.2.1, a4, by omega⟩ ?_ (L6.keep SS) (K6'.trans (Kp.same SS))
    · cases z : H p with
      | none => rfl
      | some o =>
        have pa1 : p ≠ a := fun q => by
          obtain ⟨o2, e⟩ := L6.some1
          rw [← q, hp] at e
          cases e
        have pc1 : p ≠ c := fun q => by
          obtain ⟨o2, e⟩ := L6.some2
          rw [← q, hp] at e
          cases e
        have e := K6' p o pa1 pc1 z
        rw [hp] at e
        cases e
    · intro z
      rw [hB.2.2 z, ex]

theorem ok_lleaves (T : Txt K mg) : FnOk P w K mg base CX0 1 T.f__law_leaves T.d__law_leaves p__law_leaves (spLeaves T.C_Shape) := by
  refine T.F__law_leaves.ok sc__law_leaves (fun vs H Q E h => ?_) (fun cdv A outer s H vs Q E hr h => ?_)
  · obtain ⟨p, f, d, w, b, s, rfl, _⟩ := h
    rfl
  · obtain ⟨p, f, d, w, b, s, rfl, ⟨dx, hp⟩, ⟨h1, h2, h3, h4, _⟩, k⟩ := h
    refine ⟨_, (pss_cons (ps_set (i := 1) sc__law_leaves.nd rfl (Or.inl rfl) pe_int)
      (pss_cons (ps_for PassesOwn.never rfl (pi_range1 rfl T.z_range (pa_cons (pe_fld (pv 0) rfl) pa_nil)) (pg_name (i := 2) sc__law_leaves.nd rfl (Or.inl rfl)) (pss_one (ps_set (i := 1) sc__law_leaves.nd rfl (Or.inl rfl) (pe_op op_mul (pv 1) (pe_fld (pv 0) rfl)))))
      (pss_one (ps_ret (pv 1))))), ?_⟩
    refine ⟨_, rfl, p, T.C_Shape, dx, _, _, rfl, hp, T.cl_Shape, T.na_Shape_depth, rfl, _, rfl, by omega, by omega, for_range (n := d.toNat) (fun i σ H' => ∃ (n : Int) (v : Option V), σ = [some (.ref p), some (.int n), v] ∧ H' = H ∧ n = f ^ i)
      ⟨1, none, rfl, rfl, (Int.pow_zero f).symm⟩ ?_ ?_⟩
    · rintro i σ H' hi ⟨n, v, rfl, rfl, e⟩
      exact ⟨_, rfl, _, rfl, p, T.C_Shape, dx, _, _, rfl, hp, T.cl_Shape, T.na_Shape_fanout, rfl, _, _, rfl, rfl, .inr ⟨by omega, by omega⟩, _, _, rfl, rfl, by rw [e]; exact (Int.pow_succ f i).symm⟩
    · rintro σ H' ⟨n, v, rfl, rfl, e⟩
      exact ⟨_, rfl, e ▸ k⟩

end
theorem ix_listK {X : Cx} {K : PySem.W.Frag} (e : X.K = K) : IxR X (rIxL K) := by
  subst e
  exact ix_list
section
variable {P : Program} {w : World} {K : PySem.W.Frag} {mg : Str → Option Value} {base : Heap}
def spWords (C : Addr) : Sp := fun vs H Q _ => ∃ (a c sh : Addr) (f d w b s : Int), vs = [.ref a, .ref sh] ∧ StA a c H ∧ ShAt C H sh f d w b s ∧ 1 ≤ w ∧ w ≤ 4 ∧
  ∀ (l : Addr) (ws : List Int) H', H l = none → H' l = some (.lst (ws.map V.int)) → ws.length = w.toNat → StA a c H' → Kp a c H H' → Q (.ref l) H'
theorem ok_words (T : Txt K mg) : FnOk P w K mg base CX0 2 T.f__law_words T.d__law_words p__law_words (spWords T.C_Shape) := by
  have G__law_draw : FnOk P w K mg base CX0 1 T.f__law_draw T.d__law_draw p__law_draw spDraw := ok_draw T
  refine T.F__law_words.ok sc__law_words (fun vs H Q E h => ?_) (fun cdv A outer s H vs Q E hr h => ?_)
  · obtain ⟨a, c, sh, f, d, wn, b, z, rfl, _⟩ := h
    rfl
  · obtain ⟨a, c, sh, f, d, wn, b, z, rfl, S0, ⟨dx, hsh⟩, w1, w4, k⟩ := h
    refine ⟨_, (pss_one (ps_ret (pe_lc (own := [("k", 2)]) (g := gName 2) (tt := tYes) rfl sc__law_words.nd (pi_range1 rfl T.z_range (pa_cons (pe_fld (pv 1) rfl) pa_nil)) (blkOk_by (N := n__law_words) (sc := defScope s__law_words) (by decide +kernel)) (fun _ _ _ _ _ => (pg_name (i := 2) sc__law_words.nd rfl (Or.inl rfl))) (fun _ _ _ _ _ => pts_nil) (fun _ _ _ _ _ => (pe_call G__law_draw (hr.mono (by decide)) rfl T.mg__law_draw T.F__law_draw.kp T.b__law_draw .nil pass0 (pa_cons (pv 0) (pa_cons (pe_ix (ix_listK (K := K) rfl) (pe_lst (pa_cons pe_int (pa_cons pe_int pa_nil))) (pe_call G__law_draw (hr.mono (by decide)) rfl T.mg__law_draw T.F__law_draw.kp T.b__law_draw .nil pass0 (pa_cons (pv 0) (pa_cons pe_int pa_nil))) (fun _ _ => rfl)) pa_nil))))))), ?_⟩
    refine ⟨_, rfl, sh, T.C_Shape, dx, _, _, rfl, hsh, T.cl_Shape, T.na_Shape_words, rfl, _, rfl, by omega, by omega, fun D hD => lc_range (n := wn.toNat) (fun i H2 => ∃ ws : List Int, H2 D = some (.lst (ws.map V.int)) ∧ ws.length = i ∧ StA a c H2 ∧ Kp a c H H2) ⟨[], upd_same, rfl, S0.keep (Same.new hD), Kp.same (Same.new hD)⟩ ?_ ?_⟩
    · rintro i H2 hi ⟨ws, h1, h2, S2, K2⟩
      have Da : D ≠ a := fun y => by obtain ⟨o, e⟩ := S0.some1; rw [← y, hD] at e; cases e
      have Dc : D ≠ c := fun y => by obtain ⟨o, e⟩ := S0.some2; rw [← y, hD] at e; cases e
      refine ⟨rfl, ?_⟩
      refine ⟨_, rfl, (by show 2 ≤ sizeLine; decide), fun l1 hl1 => ?_⟩
      have S3 := S2.keep (Same.new (o := .lst [V.int 3, V.int 256]) hl1)
      have la : l1 ≠ a := fun y => by obtain ⟨o, e⟩ := S2.some1; rw [← y, hl1] at e; cases e
      have lc : l1 ≠ c := fun y => by obtain ⟨o, e⟩ := S2.some2; rw [← y, hl1] at e; cases e
      have h13 := (Same.new (o := .lst [V.int 3, V.int 256]) hl1) _ _ h1
      refine ⟨_, rfl, a, c, 2, rfl, S3, by decide, by decide, fun r1 H3 r10 r11 S4 K4 => ?_⟩
      obtain ⟨m, hm, m1, m2⟩ : ∃ m : Int, ([V.int 3, V.int 256] : List V)[r1.toNat]? = some (.int m) ∧ 1 ≤ m ∧ m < 1000000 := by
        have q : r1 = 0 ∨ r1 = 1 := by omega
        rcases q with rfl | rfl
        · exact ⟨3, rfl, by decide, by decide⟩
        · exact ⟨256, rfl, by decide, by decide⟩
      refine ⟨l1, _, r1, _, rfl, rfl, SqL.of (K4 _ _ la lc upd_same), at_of (j := r1.toNat) (by omega) hm, ?_⟩
      refine ⟨a, c, m, rfl, S4, m1, m2, fun r2 H4 r20 r21 S5 K5 => ?_⟩
      have h14 := K5 _ _ Da Dc (K4 _ _ Da Dc h13)
      refine ⟨_, h14, small1000 (by rw [List.length_map]; omega), ws ++ [r2], by rw [upd_same, List.map_append]; rfl, by rw [List.length_append, List.length_singleton, h2], ?_, ?_⟩
      · obtain ⟨ns', z', q1, q2, q3, q4⟩ := S5
        exact ⟨ns', z', q1, by rw [upd_ne Da.symm]; exact q2, by rw [upd_ne Dc.symm]; exact q3, q4⟩
      · have KK : Kp a c H H4 := K2.trans ((Kp.same (Same.new (o := .lst [V.int 3, V.int 256]) hl1)).trans (K4.trans K5))
        intro x o x1 x2 e
        rw [upd_ne (ne_of_none e hD)]
        exact KK x o x1 x2 e
    · rintro H2 ⟨ws, h1, h2, S2, K2⟩
      exact k D ws H2 hD h1 h2 S2 K2
end

/-! ### the law of blank volumes: its disk -/
abbrev XL (P : Program) (w : World) (K : PySem.W.Frag) (mg : Str → Option Value) (base : Heap) (fL : Addr) (cdv : Value) (A : Around) (outer : List Env) (s : Shared) (H : Hp) (E : XK) : Cx :=
  (cxOf CX0 P w K mg base n_law "law" (defScope s_law) fL cdv A outer s H E).nox
/-- a disk with the first n cells of a blank volume -/
def DiskOk (w f : Nat) (H : Hp) (dk : Addr) (n : Nat) : Prop := ∃ kvs : List (Key × V), H dk = some (.dK kvs) ∧ kvs.length ≤ n ∧ ∀ i, i < n → ∃ v, valV kvs (.inl (i : Int)) = some v ∧ Td H v (cD w f i)
theorem kn_at {H : Hp} {ds : List PyData} {d : PyData} {v : V} {i : Nat} (hd : Td H v d) (hx : txt d = true) (hi : ds[i]? = some d) : kn ds d ((i : Int) + 1) = true := by
  unfold kn
  rw [if_pos (by omega), show ((i : Int) + 1 - 1).toNat = i by omega, hi]
  exact (eqv_txt hd hx).mpr rfl
section
variable {P : Program} {w : World} {K : PySem.W.Frag} {mg : Str → Option Value} {base : Heap} {cdv : Value} {A : Around} {outer : List Env} {s0 : Shared} {H0 : Hp} {E : XK}
theorem law_disk (T : Txt K mg) (hr : Room 6 (A.deeper (PyProof.Rows.envOfC "law" (defScope s_law) s0.heap.objs.size T.f_law cdv))) {t6 : TS} (h6 : PSs (XL P w K mg base T.f_law cdv A outer s0 H0 E) ((defBody s_law).drop 10) t6) :
    ∃ t, PSs (XL P w K mg base T.f_law cdv A outer s0 H0 E) ((defBody s_law).drop 8) t ∧ ∀ (D : Ends) (l0 a c sh p md tl wl an cell dl : Addr) (lv : Option V) (f d wn b z : Int) (us : List V) (H : Hp), ShAt T.C_Shape H sh f d wn b z → ShOk f d wn b z → StA a c H → SeA P w T.C_Sealer H p md tl (cDs wn.toNat f.toNat (d.toNat + 1)) →
      H wl = some (.lst us) → TdAll H us (pDs wn.toNat f.toNat (d.toNat + 1)) →
      (∀ cell bk H' dk, Same H H' → DiskOk wn.toNat f.toNat H' dk (d.toNat + 1) → t6 D [some (.ref l0), some (.ref a), some (.ref sh), some (.ref p), some (.ref wl), some (.ref an), cell, some (.ref dl), lv, some (.ref dk), bk, none, none, none] H') →
      t D [some (.ref l0), some (.ref a), some (.ref sh), some (.ref p), some (.ref wl), some (.ref an), some (.ref cell), some (.ref dl), lv, none, none, none, none, none] H := by
  have G_Sealer_knows : FnOk P w K mg base CX0 2 T.f_Sealer_knows T.d_Sealer_knows p_Sealer_knows (spKnows P w T.C_Sealer) := ok_knows T
  refine ⟨_, (pss_cons (ps_set (i := 9) sc_law.nd rfl (Or.inl rfl) pe_dnewK)
      (pss_cons (ps_for PassesOwn.never rfl (pi_list (pv 4)) (pg_tup rfl (pgs_cons (pg_name (i := 10) sc_law.nd rfl (Or.inl rfl)) (pgs_cons (pg_name (i := 6) sc_law.nd rfl (Or.inl rfl)) pgs_nil))) (pss_cons (ps_dput (hu1 hr) (pv 9) (pv 10) (pv 6) rfl)
      (pss_one (ps_if (pt_not (pt_val (pe_meth (pv 3) T.cl_Sealer T.m_Sealer_knows G_Sealer_knows (hr.mono (by decide)) T.b_Sealer_knows .nil pass0 (pa_cons (pv 6) (pa_cons (pe_op op_add (pv 10) pe_int) pa_nil))))) (pss_one (ps_ret pe_bl)) pss_nil))))
      h6)), ?_⟩
  intro D l0 a c sh p md tl wl an cell dl lv f d wn b z us H hSh hok hSt hSe hwl hus k
  intro dk hdk
  have hul : us.length = d.toNat + 1 := by have := hus.length; simpa [pDs] using this
  have S1 : Same H (upd H dk (.dK [])) := Same.new hdk
  refine ⟨_, rfl, wl, rfl, ⟨_, SqL.of (S1 _ _ hwl)⟩, for_list (K := K) (a := wl) (xs := us) (fun i σ H' => ∃ (cell bk : Option V), σ = [some (.ref l0), some (.ref a), some (.ref sh), some (.ref p), some (.ref wl), some (.ref an), cell, some (.ref dl), lv, some (.ref dk), bk, none, none, none] ∧
    (∀ x o, x ≠ dk → H x = some o → H' x = some o) ∧ DiskOk wn.toNat f.toNat H' dk i) ⟨_, _, rfl, fun x o hx e => S1 _ _ e, [], upd_same, Nat.le_refl _, fun i hi => absurd hi (Nat.not_lt_zero _)⟩ ?_ ?_ ?_⟩
  · rintro i σ H' hi ⟨cell, bk, rfl, F, _⟩
    exact SqL.of (F _ _ (ne_of_none hwl hdk) hwl)
  · rintro i x σ H' hx ⟨cell, bk, rfl, F, kvs, h1, h2, h3⟩
    have hi : i < d.toNat + 1 := by
      have := (List.getElem?_eq_some_iff.mp hx).1
      omega
    have K' : TKeep H H' := fun b vs e => F _ _ (ne_of_none e hdk) e
    obtain ⟨e, he1, he2⟩ := hus.get hx
    obtain rfl : e = .tuple [.int (i : Int), cD wn.toNat f.toNat i] := by
      rw [pDs, List.getElem?_map, List.getElem?_range hi] at he1
      exact (Option.some.inj he1).symm
    obtain ⟨tq, v, rfl, hq, hv⟩ : ∃ tq v, x = .ref tq ∧ H tq = some (.tup [.int (i : Int), v]) ∧ Td H v (cD wn.toNat f.toNat i) := by
      cases he2 with
      | tup h t =>
        cases t with
        | cons a b =>
          cases a
          cases b with
          | cons a b =>
            cases b
            exact ⟨_, _, rfl, h, a⟩
    have hG := cD_facts (w := wn.toNat) (f := f.toNat) (n := i) (by have := hok.2.2.2.2.2.2.1; omega) (by have := hok.2.1; omega)
    refine ⟨tq, [.int (i : Int), v], rfl, SqT.of (F _ _ (ne_of_none hq hdk) hq), rfl, ?_⟩
    have d6 := hok.2.2.2.1
    refine ⟨_, _, rfl, _, _, rfl, rfl, _, rfl, _, rfl, _, rfl, dk, _, rfl, DPut.k (k := .inl (i : Int)) h1 (by simp only [sizeLine]; omega), ?_⟩
    obtain ⟨dx, kv0, vs0, hp0, hm0, ht0, _⟩ := id hSe
    have F1 : ∀ b o, b ≠ dk → H b = some o → (upd H' dk (.dK (putK kvs (.inl (i : Int)) v))) b = some o := fun b o hb e => by rw [upd_ne hb]; exact F _ _ hb e
    have K1 : TKeep H (upd H' dk (.dK (putK kvs (.inl (i : Int)) v))) := fun b vs e => F1 _ _ (ne_of_none e hdk) e
    have Se1 : SeA P w T.C_Sealer (upd H' dk (.dK (putK kvs (.inl (i : Int)) v))) p md tl (cDs wn.toNat f.toNat (d.toNat + 1)) := hSe.keep K1 (fun o e => F1 _ _ (ne_of_none e hdk) e) (fun o e => F1 _ _ (ne_of_none e hdk) e) (fun o e => F1 _ _ (ne_of_none e hdk) e)
    have hv1 := hv.keep K1
    have hat : (cDs wn.toNat f.toNat (d.toNat + 1))[i]? = some (cD wn.toNat f.toNat i) := by rw [cDs, List.getElem?_map, List.getElem?_range hi]; rfl
    refine ⟨_, rfl, p, dx, _, rfl, F1 _ _ (ne_of_none hp0 hdk) hp0, rfl, _, rfl, _, rfl, _, _, rfl, rfl, p, md, tl, _, v, cD wn.toNat f.toNat i, (i : Int) + 1, rfl, Se1, hv1, by omega, by omega, fun H2 S2 => ?_⟩
    rw [kn_at hv1 hG.1 hat]
    refine ⟨true, rfl, iteF ?_⟩
    refine ⟨_, _, rfl, fun b o hb e => S2 _ _ (F1 _ _ hb e), putK kvs (.inl (i : Int)) v, S2 _ _ upd_same, Nat.le_trans (length_putK _ _ _) (by omega), fun j hj => ?_⟩
    rw [valV_put]
    by_cases ej : j = i
    · rw [ej, if_pos rfl]
      exact ⟨v, rfl, hv1.keep (sameTk S2)⟩
    · obtain ⟨u, q1, q2⟩ := h3 j (by omega)
      rw [if_neg (fun z => ej (by have := Sum.inl.inj z; omega))]
      refine ⟨u, q1, q2.keep fun b vs e => S2 _ _ ?_⟩
      rw [upd_ne (fun z => by rw [z, h1] at e; cases e)]
      exact e
  · rintro σ H' ⟨cell, bk, rfl, F, hD⟩
    rw [hul] at hD
    exact k _ _ _ _ (fun x o e => F _ _ (ne_of_none e hdk) e) hD
theorem rep_use {K : PySem.W.Frag} {H : Hp} {l : Addr} {v : V} {k : Int} {Q : VK} (h : H l = some (.tup [v])) (k1 : 1 ≤ k) (k2 : k ≤ 4) (q : ∀ t H', Same H H' → H' t = some (.tup (List.replicate k.toNat v)) → Q (.ref t) H') : rRepTA K (.ref l) (.int k) H Q := by
  refine ⟨l, k, [v], rfl, rfl, SqT.of h, by simp, k1, by omega, by simp, fun e => ?_, fun _ t ht => ?_⟩
  · subst e
    exact q l H (Same.refl H) h
  · rw [rep_one]
    exact q t _ (Same.new ht) upd_same
theorem cat_use {K : PySem.W.Frag} {H : Hp} {a b : Addr} {z : Str} {v : V} {k : Nat} {Q : VK} (h : H a = some (.tup [.str z])) (h2 : H b = some (.tup (List.replicate k v))) (k1 : 1 ≤ k) (k2 : k ≤ 4) (q : ∀ p, H p = none → Q (.ref p) (upd H p (.tup (.str z :: List.replicate k v)))) : rCatA K (.ref a) (.ref b) H Q :=
  ⟨a, b, [.str z], List.replicate k v, rfl, rfl, SqT.of h, SqT.of h2, by simp [sizeLine]; omega, fun e => (by cases e), fun _ e => (by have := congrArg List.length e; simp at this; omega), fun _ _ p hp => q p hp⟩
theorem TdAll.shpN {H : Hp} {vs : List V} {ds : List PyData} (h : TdAll H vs ds) (n : ∀ d ∈ ds, d.depth ≤ 10) : SeqAt.shaped (.list ds) = true := by
  have dd : PyData.depthAll ds ≤ 10 := by
    clear h
    induction ds with
    | nil => exact Nat.zero_le _
    | cons d ds ih =>
      have := n d List.mem_cons_self
      have := ih fun e he => n e (List.mem_cons_of_mem _ he)
      simp only [PyData.depthAll]
      omega
  simp only [SeqAt.shaped, PyData.canLay0, h.lay, Bool.true_and]
  refine decide_eq_true ?_
  simp only [PyData.depth]
  omega
theorem pDs_facts {w f n : Nat} (h1 : w ≤ 4) (h2 : f ≤ 4) : txtAll (pDs w f n) = true ∧ ∀ d ∈ pDs w f n, d.depth ≤ 10 := by
  induction n with
  | zero => exact ⟨rfl, fun d hd => by cases hd⟩
  | succ n ih =>
    obtain ⟨q1, q2, q3⟩ := cD_facts (n := n) h1 h2
    rw [pDs_succ, txtAll_app, ih.1]
    refine ⟨by simp [txtAll, txt, pD, q1], fun d hd => ?_⟩
    rcases List.mem_append.mp hd with hd | hd
    · exact ih.2 d hd
    · rw [List.mem_singleton.mp hd]
      simp only [pD, PyData.depth, PyData.depthAll]
      omega
theorem law_due (T : Txt K mg) (hr : Room 6 (A.deeper (PyProof.Rows.envOfC "law" (defScope s_law) s0.heap.objs.size T.f_law cdv))) {t8 : TS} (h8 : PSs (XL P w K mg base T.f_law cdv A outer s0 H0 E) ((defBody s_law).drop 8) t8) :
    ∃ t, PSs (XL P w K mg base T.f_law cdv A outer s0 H0 E) ((defBody s_law).drop 4) t ∧ ∀ (D : Ends) (l0 a sh p wl an : Addr) (f d wn b z : Int) (us : List V) (H : Hp), ShAt T.C_Shape H sh f d wn b z → ShOk f d wn b z →
      H wl = some (.lst us) → TdAll H us (pDs wn.toNat f.toNat (d.toNat + 1)) → Td H (.ref an) (.tuple [.str ("anchor" : Str), .int 0, .tuple [eD d.toNat]]) →
      (∀ cell dl lv H', Same H H' → t8 D [some (.ref l0), some (.ref a), some (.ref sh), some (.ref p), some (.ref wl), some (.ref an), some (.ref cell), some (.ref dl), lv, none, none, none, none, none] H') →
      t D [some (.ref l0), some (.ref a), some (.ref sh), some (.ref p), some (.ref wl), some (.ref an), none, none, none, none, none, none, none, none] H := by
  refine ⟨_, (pss_cons (ps_set (i := 6) sc_law.nd rfl (Or.inl rfl) (pe_op op_catA (pe_tup (pa_cons pe_str pa_nil)) (pe_op op_repTA (pe_tup (pa_cons pe_int pa_nil)) (pe_fld (pv 2) rfl))))
      (pss_cons (ps_set (i := 7) sc_law.nd rfl (Or.inl rfl) (pe_lst (pa_cons (pe_tup (pa_cons pe_int (pa_cons (pv 6) pa_nil))) pa_nil)))
      (pss_cons (ps_for PassesOwn.never rfl (pi_range1 rfl T.z_range (pa_cons (pe_fld (pv 2) rfl) pa_nil)) (pg_name (i := 8) sc_law.nd rfl (Or.inl rfl)) (pss_cons (ps_set (i := 6) sc_law.nd rfl (Or.inl rfl) (pe_op op_catA (pe_tup (pa_cons pe_str pa_nil)) (pe_op op_repTA (pe_tup (pa_cons (pe_tup (pa_cons (pv 8) (pa_cons (pe_op op_add (pv 8) pe_int) pa_nil))) pa_nil)) (pe_fld (pv 2) rfl))))
      (pss_one (ps_expr (pe_bm PySem.F.plainAttrs_list PySem.F.slot_list_append PySem.F.type_list_append mt_append (pv 7) (pa_cons (pe_tup (pa_cons (pe_op op_add (pv 8) pe_int) (pa_cons (pv 6) pa_nil))) pa_nil))))))
      (pss_cons (ps_if (PW.pt (pw_or (pt_cmpR (op_neD (hr.units)) (pv 4) (pv 7) (nomark _)) (pw_or1 (pt_cmpR (op_neD (hr.units)) (pv 5) (pe_tup (pa_cons pe_str (pa_cons pe_int (pa_cons (pe_tup (pa_cons (pe_tup (pa_cons (pe_fld (pv 2) rfl) (pa_cons (pe_op op_add (pe_fld (pv 2) rfl) pe_int) pa_nil))) pa_nil)) pa_nil)))) (nomark _))))) (pss_one (ps_ret pe_bl)) pss_nil)
      h8)))), ?_⟩
  intro D l0 a sh p wl an f d wn b z us H ⟨dx, hsh⟩ ⟨f2, f4, d1, d6, fd, w1, w4, hb1, hb2, s0', s3⟩ hwl hus han k
  refine ⟨(by show 1 ≤ sizeLine; decide), fun t1 h1 => ?_⟩
  refine ⟨(by show 1 ≤ sizeLine; decide), fun t2 h2 => ?_⟩
  have S2 := (Same.new (o := .tup [V.str "leaf"]) h1).trans (Same.new (o := .tup [V.int 0]) h2)
  refine ⟨_, rfl, sh, T.C_Shape, dx, _, _, rfl, S2 _ _ hsh, T.cl_Shape, T.na_Shape_words, rfl, ?_⟩
  refine rep_use upd_same w1 w4 fun t3 H1 S3 h3 => ?_
  have h1' := S3 _ _ ((Same.new (o := .tup [V.int 0]) h2) _ _ upd_same)
  refine cat_use h1' h3 (by omega) (by omega) fun t4 h4 => ?_
  have S5 : Same H (upd H1 t4 (.tup (.str "leaf" :: List.replicate wn.toNat (V.int 0)))) := (S2.trans S3).trans (Same.new h4)
  have D5 : Td (upd H1 t4 (.tup (.str "leaf" :: List.replicate wn.toNat (V.int 0)))) (.ref t4) (cD wn.toNat f.toNat 0) := td_new h4 (.cons (.str _ (by decide +kernel)) (TdAll.rep (.int 0) _))
  generalize (upd H1 t4 (.tup (.str "leaf" :: List.replicate wn.toNat (V.int 0)))) = H5 at *
  -- due = [(0, cell)]
  refine ⟨_, rfl, (by show 2 ≤ sizeLine; decide), fun t6 h6 => ?_⟩
  refine ⟨(by show 1 ≤ sizeLine; decide), fun dl hdl => ?_⟩
  have S6 : Same H (upd (upd H5 t6 (.tup [.int 0, .ref t4])) dl (.lst [.ref t6])) := S5.trans ((Same.new h6).trans (Same.new hdl))
  have P6 : TdAll (upd (upd H5 t6 (.tup [.int 0, .ref t4])) dl (.lst [.ref t6])) [.ref t6] (pDs wn.toNat f.toNat (0 + 1)) := .cons ((td_new h6 (.cons (.int 0) (.cons D5 .nil))).keep (sameTk (Same.new hdl))) .nil
  have W6 : (upd (upd H5 t6 (.tup [.int 0, .ref t4])) dl (.lst [.ref t6])) dl = some (.lst [.ref t6]) := upd_same
  have hdl0 : H dl = none := by
    cases e : H dl with
    | none => rfl
    | some o => rw [(S5.trans (Same.new h6)) _ _ e] at hdl; cases hdl
  show tSeq _ _ _ _ (upd (upd H5 t6 (.tup [.int 0, .ref t4])) dl (.lst [.ref t6]))
  generalize (upd (upd H5 t6 (.tup [.int 0, .ref t4])) dl (.lst [.ref t6])) = H6 at *
  refine ⟨_, rfl, sh, T.C_Shape, dx, _, _, rfl, S6 _ _ hsh, T.cl_Shape, T.na_Shape_depth, rfl, _, rfl, by omega, by omega, for_range (n := d.toNat) (fun i σ H' => ∃ (cell : Addr) (lv : Option V) (vs : List V),
    σ = [some (.ref l0), some (.ref a), some (.ref sh), some (.ref p), some (.ref wl), some (.ref an), some (.ref cell), some (.ref dl), lv, none, none, none, none, none] ∧ Same H H' ∧ H' dl = some (.lst vs) ∧ TdAll H' vs (pDs wn.toNat f.toNat (i + 1))) ⟨t4, none, _, rfl, S6, W6, P6⟩ ?_ ?_⟩
  · rintro i σ H7 hi ⟨cell, lv, vs, rfl, S7, W7, P7⟩
    rw [show (0 : Int) + (i : Nat) = (i : Nat) from Int.zero_add _]
    have ec : ((i : Int) + 1) = ((i + 1 : Nat) : Int) := by omega
    refine ⟨(by show 1 ≤ sizeLine; decide), fun u1 hu1 => ?_⟩
    refine ⟨_, rfl, _, rfl, _, _, rfl, rfl, (by show 2 ≤ sizeLine; decide), fun u2 hu2 => ?_⟩
    refine ⟨(by show 1 ≤ sizeLine; decide), fun u3 hu3 => ?_⟩
    have T2 : Td (upd (upd H7 u1 (.tup [.str "node"])) u2 (.tup [.int (i : Int), .int ((i : Int) + 1)])) (.ref u2) (.tuple [.int (i : Int), .int ((i : Int) + 1)]) := td_new hu2 (.cons (.int _) (.cons (.int _) .nil))
    have S8 : Same H7 (upd (upd (upd H7 u1 (.tup [.str "node"])) u2 (.tup [.int (i : Int), .int ((i : Int) + 1)])) u3 (.tup [.ref u2])) := (Same.new hu1).trans ((Same.new hu2).trans (Same.new hu3))
    have T3 := T2.keep (sameTk (Same.new (o := .tup [V.ref u2]) hu3))
    have N1 : (upd (upd (upd H7 u1 (.tup [.str "node"])) u2 (.tup [.int (i : Int), .int ((i : Int) + 1)])) u3 (.tup [.ref u2])) u1 = some (.tup [.str "node"]) := ((Same.new hu2).trans (Same.new hu3)) _ _ upd_same
    have N3 : (upd (upd (upd H7 u1 (.tup [.str "node"])) u2 (.tup [.int (i : Int), .int ((i : Int) + 1)])) u3 (.tup [.ref u2])) u3 = some (.tup [.ref u2]) := upd_same
    refine ⟨_, rfl, sh, T.C_Shape, dx, _, _, rfl, S8 _ _ (S7 _ _ hsh), T.cl_Shape, T.na_Shape_fanout, rfl, ?_⟩
    refine rep_use N3 (by omega) f4 fun t7 H9 S9 h7 => ?_
    refine cat_use (S9 _ _ N1) h7 (by omega) (by omega) fun t8 ht8 => ?_
    have D10 : Td (upd H9 t8 (.tup (.str "node" :: List.replicate f.toNat (V.ref u2)))) (.ref t8) (cD wn.toNat f.toNat (i + 1)) := td_new ht8 (.cons (.str _ (by decide +kernel)) (TdAll.rep (T3.keep (sameTk S9)) _))
    have S10 : Same H7 (upd H9 t8 (.tup (.str "node" :: List.replicate f.toNat (V.ref u2)))) := (S8.trans S9).trans (Same.new ht8)
    generalize (upd H9 t8 (.tup (.str "node" :: List.replicate f.toNat (V.ref u2)))) = H10 at *
    have W10 := S10 _ _ W7
    have P10 := P7.keep (sameTk S10)
    have hvl : vs.length = i + 1 := by have := P7.length; simpa [pDs] using this
    refine ⟨_, rfl, .inl ⟨rfl, _, SqL.of W10⟩, _, rfl, _, _, rfl, rfl, _, rfl, (by show 2 ≤ sizeLine; decide), fun tq htq => ?_⟩
    have S11 : Same H10 (upd H10 tq (.tup [.int ((i : Int) + 1), .ref t8])) := Same.new htq
    refine ⟨dl, vs, .ref tq, rfl, rfl, S11 _ _ W10, small1000 (by omega), ?_⟩
    have Q11 : Td (upd H10 tq (.tup [.int ((i : Int) + 1), .ref t8])) (.ref tq) (pD wn.toNat f.toNat (i + 1)) := td_new htq (.cons (by rw [ec]; exact .int _) (.cons D10 .nil))
    have K12 : TKeep (upd H10 tq (.tup [.int ((i : Int) + 1), .ref t8])) (upd (upd H10 tq (.tup [.int ((i : Int) + 1), .ref t8])) dl (.lst (vs ++ [.ref tq]))) := TKeep.upd (S11 _ _ W10)
    refine ⟨t8, _, _, rfl, fun b o e => ?_, upd_same, ?_⟩
    · rw [upd_ne (ne_of_none e hdl0)]
      exact S11 _ _ (S10 _ _ (S7 _ _ e))
    · rw [pDs_succ]
      exact ((P10.keep (sameTk S11)).keep K12).snoc' (Q11.keep K12)
  · rintro σ H7 ⟨cell, lv, vs, rfl, S7, W7, P7⟩
    obtain ⟨x1, x2⟩ := pDs_facts (w := wn.toNat) (f := f.toNat) (n := d.toNat + 1) (by omega) (by omega)
    have hus7 := hus.keep (sameTk S7)
    have han7 := han.keep (sameTk S7)
    refine ⟨_, rfl, _, rfl, _, _, .lst (SqL.of (S7 _ _ hwl)) hus7.dp, .lst (SqL.of W7) P7.dp, hus7.shpN x2, P7.shpN x2, ?_⟩
    have e1 : PyData.eqv (.list (pDs wn.toNat f.toNat (d.toNat + 1))) (.list (pDs wn.toNat f.toNat (d.toNat + 1))) = true := by simp only [PyData.eqv]; exact (eqvAll_txt hus7 x1).mpr rfl
    refine ⟨_, rfl, iteNE e1 ?_⟩
    have ed : (d.toNat : Int) = d := by omega
    have ee : eD d.toNat = .tuple [.int d, .int (d + 1)] := by simp only [eD, ed]
    rw [ee] at han7
    have hsh7 := S7 _ _ hsh
    refine ⟨_, rfl, _, rfl, sh, T.C_Shape, dx, _, _, rfl, hsh7, T.cl_Shape, T.na_Shape_depth, rfl, _, rfl, sh, T.C_Shape, dx, _, _, rfl, hsh7, T.cl_Shape, T.na_Shape_depth, rfl, _, _, rfl, rfl, (by show 2 ≤ sizeLine; decide), fun v1 hv1 => ?_⟩
    refine ⟨(by show 1 ≤ sizeLine; decide), fun v2 hv2 => ⟨(by show 3 ≤ sizeLine; decide), fun v3 hv3 => ?_⟩⟩
    have S8 := (Same.new (o := .tup [V.int d, V.int (d + 1)]) hv1).trans ((Same.new (o := .tup [V.ref v1]) hv2).trans (Same.new (o := .tup [V.str "anchor", V.int 0, V.ref v2]) hv3))
    have A1 := td_new hv3 (.cons (.str "anchor" (by decide +kernel)) (.cons (.int 0) (.cons (td_new hv2 (.cons (td_new hv1 (.cons (.int d) (.cons (.int (d + 1)) .nil))) .nil)) .nil)))
    have han8 := han7.keep (sameTk S8)
    have e2 := (eqv_txt han8 (by simp [txt, txtAll])).mpr rfl
    have dp : (PyData.tuple [.str ("anchor" : Str), .int 0, .tuple [.tuple [.int d, .int (d + 1)]]]).depth ≤ 64 := by simp [PyData.depth, PyData.depthAll]
    refine ⟨_, _, han8.dp, A1.dp, han8.shaped dp, A1.shaped dp, _, rfl, iteNE e2 ?_⟩
    exact k _ _ _ _ (S7.trans S8)
end

/-! ### the head of the law of blank volumes -/
section
variable {P : Program} {w : World} {K : PySem.W.Frag} {mg : Str → Option Value} {base : Heap} {cdv : Value} {A : Around} {outer : List Env} {s0 : Shared} {H0 : Hp} {E : XK}
theorem law_head (T : Txt K mg) (hr : Room 6 (A.deeper (PyProof.Rows.envOfC "law" (defScope s_law) s0.heap.objs.size T.f_law cdv))) {t4 : TS} (h4 : PSs (XL P w K mg base T.f_law cdv A outer s0 H0 E) ((defBody s_law).drop 4) t4) :
    ∃ t, PSs (XL P w K mg base T.f_law cdv A outer s0 H0 E) (defBody s_law) t ∧ ∀ (D : Ends) (l0 : Addr) (ns : List Int) (H : Hp), SqL K H l0 (ns.map V.int) → ns.length ≤ 63 →
      (∀ (a c sh p md tl wl an : Addr) (f d wn b z : Int) (us : List V) H', ShAt T.C_Shape H' sh f d wn b z → ShOk f d wn b z → StA a c H' → SeA P w T.C_Sealer H' p md tl (cDs wn.toNat f.toNat (d.toNat + 1)) →
        H' wl = some (.lst us) → TdAll H' us (pDs wn.toNat f.toNat (d.toNat + 1)) → Td H' (.ref an) (.tuple [.str ("anchor" : Str), .int 0, .tuple [eD d.toNat]]) →
        t4 D [some (.ref l0), some (.ref a), some (.ref sh), some (.ref p), some (.ref wl), some (.ref an), none, none, none, none, none, none, none, none] H') →
      t D [some (.ref l0), none, none, none, none, none, none, none, none, none, none, none, none, none] H := by
  have G__law_state : FnOk P w K mg base CX0 1 T.f__law_state T.d__law_state p__law_state (spState K) := ok_state T
  have G__law_shape : FnOk P w K mg base CX0 6 T.f__law_shape T.d__law_shape p__law_shape (spLShape T.C_Shape) := ok_lshape T
  have G_Sealer___init__ : FnOk P w K mg base CX0 1 T.f_Sealer___init__ T.d_Sealer___init__ p_Sealer___init__ (spInitS P w T.C_Sealer) := ok_init T
  have G_blank_volume : FnOk P w K mg base CX0 3 T.f_blank_volume T.d_blank_volume p_blank_volume (spBlank P w T.C_Shape T.C_Sealer) := ok_blank T
  refine ⟨_, (pss_cons (ps_set (i := 1) sc_law.nd rfl (Or.inl rfl) (pe_call G__law_state (hr.mono (by decide)) rfl T.mg__law_state T.F__law_state.kp T.b__law_state .nil pass0 (pa_cons (pv 0) pa_nil)))
      (pss_cons (ps_set (i := 2) sc_law.nd rfl (Or.inl rfl) (pe_call G__law_shape (hr.mono (by decide)) rfl T.mg__law_shape T.F__law_shape.kp T.b__law_shape .nil pass0 (pa_cons (pv 1) (pa_cons pe_int pa_nil))))
      (pss_cons (ps_set (i := 3) sc_law.nd rfl (Or.inl rfl) (pe_make0 T.M_Sealer G_Sealer___init__ (hr.mono (by decide)) rfl T.mg_Sealer T.b_Sealer___init__ .nil pass0))
      (pss_cons (ps_asg (pe_call G_blank_volume (hr.mono (by decide)) rfl T.mg_blank_volume T.F_blank_volume.kp T.b_blank_volume .nil pass0 (pa_cons (pv 2) (pa_cons (pv 3) pa_nil))) (pg_tup rfl (pgs_cons (pg_name (i := 4) sc_law.nd rfl (Or.inl rfl)) (pgs_cons (pg_name (i := 5) sc_law.nd rfl (Or.inl rfl)) pgs_nil))))
      h4)))), ?_⟩
  intro D l0 ns H hS hlen k
  refine ⟨_, rfl, l0, ns, rfl, hS, hlen, fun a c H1 ha hc S1 SS1 => ?_⟩
  refine ⟨_, rfl, a, c, 2, rfl, S1, by decide, by decide, fun sh f d wn b z H2 hsh hSh ok _ S2 K2 => ?_⟩
  intro p dx hp hdx nex
  refine ⟨p, dx, rfl, upd_same, fun md tl H3 hm ht k2 Se => ⟨rfl, ?_⟩⟩
  have old : ∀ {b : Addr} {o : HO}, H2 b = some o → (upd (upd H2 dx (.own p)) p (.ins T.C_Sealer dx [])) b = some o := fun e => by rw [upd_ne (ne_of_none e hp), upd_ne (ne_of_none e hdx)]; exact e
  have S23 : Same H2 H3 := fun b o e => k2 b o (ne_of_none e hp) (old e)
  have St3 := S2.keep S23
  obtain ⟨dxs, hSh2⟩ := hSh
  obtain ⟨_, kvs3, us3, _, em, et, _⟩ := id Se
  have tla : tl ≠ a := fun y => by obtain ⟨o, z⟩ := S2.some1; rw [y, old z] at ht; cases ht
  have tlc : tl ≠ c := fun y => by obtain ⟨o, z⟩ := S2.some2; rw [y, old z] at ht; cases ht
  obtain ⟨ns3, z3, hac, q1, q2, q3⟩ := id St3
  have ma : a ≠ md := fun y => by rw [y, em] at q1; exact (lst_mkd (Option.some.inj q1).symm).elim
  have mc : c ≠ md := fun y => by rw [y, em] at q2; exact (lst_mkd (Option.some.inj q2).symm).elim
  have hsh3 := S23 _ _ hSh2
  have sm : sh ≠ md := fun y => by rw [y, em] at hsh3; exact (ins_mkd (Option.some.inj hsh3).symm).elim
  have st : sh ≠ tl := fun y => by rw [y, et] at hsh3; cases hsh3
  refine ⟨_, rfl, _, rfl, sh, p, md, tl, f, d, wn, b, z, rfl, ⟨dxs, hsh3⟩, ok, Se, fun t wl an us H4 F4 K4 Se4 ht4 hwl hwl0 hus han => ?_⟩
  refine ⟨t, [.ref wl, .ref an], rfl, SqT.of ht4, rfl, _, _, rfl, _, _, rfl, rfl, ?_⟩
  exact k a c sh p md tl wl an f d wn b z us H4 ⟨dxs, F4 _ _ sm st hsh3⟩ ok ⟨ns3, z3, hac, F4 _ _ ma tla.symm q1, F4 _ _ mc tlc.symm q2, q3⟩ Se4 hwl hus han
end

/-! ### the head of the law of blank volumes -/
section
variable {P : Program} {w : World} {K : PySem.W.Frag} {mg : Str → Option Value} {base : Heap} {cdv : Value} {A : Around} {outer : List Env} {s0 : Shared} {H0 : Hp} {E : XK}
theorem ints_td {H : Hp} : ∀ ns : List Int, TdAll H (ns.map V.int) (ns.map PyData.int)
  | [] => .nil
  | n :: r => .cons (.int n) (ints_td r)
theorem ints_txt : ∀ ns : List Int, txtAll (ns.map PyData.int) = true
  | [] => rfl
  | n :: r => by simp [txtAll, txt, ints_txt r]
theorem law_tail (T : Txt K mg) (hr : Room 6 (A.deeper (PyProof.Rows.envOfC "law" (defScope s_law) s0.heap.objs.size T.f_law cdv))) :
    ∃ t, PSs (XL P w K mg base T.f_law cdv A outer s0 H0 E) ((defBody s_law).drop 13) t ∧ ∀ (D : Ends) (l0 a c sh : Addr) (x3 x4 x5 x6 x7 x8 x9 x10 x11 x12 : Option V) (f d wn b z : Int) (H : Hp), StA a c H → ShAt T.C_Shape H sh f d wn b z → ShOk f d wn b z →
      (∀ H', D.rt (.bl true) H') → t D [some (.ref l0), some (.ref a), some (.ref sh), x3, x4, x5, x6, x7, x8, x9, x10, x11, x12, none] H := by
  have G__law_words : FnOk P w K mg base CX0 2 T.f__law_words T.d__law_words p__law_words (spWords T.C_Shape) := ok_words T
  have G_leaf : FnOk P w K mg base CX0 1 T.f_leaf T.d_leaf p_leaf (spCell "leaf") := ok_leaf T
  have G_node : FnOk P w K mg base CX0 1 T.f_node T.d_node p_node (spCell "node") := ok_node T
  refine ⟨_, (pss_cons (ps_set (i := 13) sc_law.nd rfl (Or.inl rfl) (pe_call G__law_words (hr.mono (by decide)) rfl T.mg__law_words T.F__law_words.kp T.b__law_words .nil pass0 (pa_cons (pv 1) (pa_cons (pv 2) pa_nil))))
      (pss_one (ps_ret (pe_and (pe_cmpR (op_eqD (hr.units)) (pe_call G_leaf (hr.mono (by decide)) rfl T.mg_leaf T.F_leaf.kp T.b_leaf .nil pass0 (pa_cons (pe_callTy call_list_of (by rfl) T.z_list (by decide +kernel) (pa_cons (pv 13) pa_nil)) pa_nil)) (pe_op op_catA (pe_tup (pa_cons pe_str pa_nil)) (pe_callTy call_tuple_of (by rfl) T.z_tuple (by decide +kernel) (pa_cons (pv 13) pa_nil))) (nomark _)) (pe_one (pe_cmpR (op_eqD (hr.units)) (pe_call G_node (hr.mono (by decide)) rfl T.mg_node T.F_node.kp T.b_node .nil pass0 (pa_cons (pe_lst (pa_cons (pe_tup (pa_cons pe_int (pa_cons pe_int pa_nil))) (pa_cons (pe_tup (pa_cons pe_int (pa_cons pe_int pa_nil))) pa_nil))) pa_nil)) (pe_tup (pa_cons pe_str (pa_cons (pe_tup (pa_cons pe_int (pa_cons pe_int pa_nil))) (pa_cons (pe_tup (pa_cons pe_int (pa_cons pe_int pa_nil))) pa_nil)))) (nomark _))))))), ?_⟩
  intro D l0 a c sh x3 x4 x5 x6 x7 x8 x9 x10 x11 x12 f d wn b z H S hSh hok k
  refine ⟨_, rfl, _, rfl, a, c, sh, f, d, wn, b, z, rfl, S, hSh, hok.2.2.2.2.2.1, hok.2.2.2.2.2.2.1, fun l ws H1 hl0 hl hlen S1 K1 => ?_⟩
  have hwl : (ws.map V.int).length ≤ 4 := by rw [List.length_map, hlen]; have := hok.2.2.2.2.2.2.1; omega
  have hwn : ws.map V.int ≠ [] := fun e => by
    have := congrArg List.length e
    rw [List.length_map, hlen] at this
    have := hok.2.2.2.2.2.1
    simp at *
    omega
  refine ⟨_, rfl, l, ws.map V.int, rfl, .inl (SqL.of hl), fun l2 hl2 => ?_⟩
  refine ⟨l2, _, rfl, upd_same, by omega, fun t1 ht1 => ?_⟩
  have A1 : Td (upd (upd H1 l2 (.lst (ws.map V.int))) t1 (.tup (.str "leaf" :: ws.map V.int))) (.ref t1) (.tuple (.str "leaf" :: ws.map PyData.int)) := td_new ht1 (.cons (.str _ (by decide +kernel)) (ints_td ws))
  have S2 : Same H1 (upd (upd H1 l2 (.lst (ws.map V.int))) t1 (.tup (.str "leaf" :: ws.map V.int))) := (Same.new hl2).trans (Same.new ht1)
  generalize (upd (upd H1 l2 (.lst (ws.map V.int))) t1 (.tup (.str "leaf" :: ws.map V.int))) = H2 at *
  refine ⟨(by show 1 ≤ sizeLine; decide), fun t2 ht2 => ?_⟩
  have S3 : Same H2 (upd H2 t2 (.tup [.str "leaf"])) := Same.new ht2
  refine ⟨_, rfl, l, ws.map V.int, rfl, .inl ⟨SqL.of (S3 _ _ (S2 _ _ hl)), fun t3 ht3 => ?_⟩⟩
  have S4 : Same (upd H2 t2 (.tup [.str "leaf"])) (upd (upd H2 t2 (.tup [.str "leaf"])) t3 (.tup (ws.map V.int))) := Same.new ht3
  refine ⟨t2, t3, [.str "leaf"], ws.map V.int, rfl, rfl, SqT.of (S4 _ _ upd_same), SqT.of upd_same, by simp only [sizeLine, List.length_singleton]; omega, fun e => (by cases e), fun _ e => absurd e hwn, fun _ _ t4 ht4 => ?_⟩
  have A2 : Td (upd (upd (upd H2 t2 (.tup [.str "leaf"])) t3 (.tup (ws.map V.int))) t4 (.tup ([V.str "leaf"] ++ ws.map V.int))) (.ref t4) (.tuple (.str "leaf" :: ws.map PyData.int)) := td_new ht4 (.cons (.str _ (by decide +kernel)) (ints_td ws))
  have A3 := A1.keep (sameTk (S3.trans (S4.trans (Same.new (o := .tup ([V.str "leaf"] ++ ws.map V.int)) ht4))))
  generalize (upd (upd (upd H2 t2 (.tup [.str "leaf"])) t3 (.tup (ws.map V.int))) t4 (.tup ([V.str "leaf"] ++ ws.map V.int))) = H4 at *
  have e1 := (eqv_txt A3 (e := .tuple (.str "leaf" :: ws.map PyData.int)) (by simp [txt, txtAll, ints_txt])).mpr rfl
  have dp : (PyData.tuple (.str "leaf" :: ws.map PyData.int)).depth ≤ 64 := by
    have := ints_depth ws
    simp only [PyData.depth, PyData.depthAll]
    omega
  refine ⟨_, _, A3.dp, A2.dp, A3.shaped dp, A2.shaped dp, ?_⟩
  rw [e1]
  refine ⟨_, rfl, iteT ?_⟩
  refine ⟨(by show 2 ≤ sizeLine; decide), fun a1 h1 => ⟨(by show 2 ≤ sizeLine; decide), fun a2 h2 => ⟨(by show 2 ≤ sizeLine; decide), fun l3 h3 => ?_⟩⟩⟩
  refine ⟨l3, _, rfl, upd_same, by simp, fun t5 h5 => ?_⟩
  have B1 : Td (upd H4 a1 (.tup [.int 3, .int 4])) (.ref a1) (.tuple [.int 3, .int 4]) := td_new h1 (.cons (.int 3) (.cons (.int 4) .nil))
  have B2 : Td (upd (upd H4 a1 (.tup [.int 3, .int 4])) a2 (.tup [.int 5, .int 6])) (.ref a2) (.tuple [.int 5, .int 6]) := td_new h2 (.cons (.int 5) (.cons (.int 6) .nil))
  have B1' := (B1.keep (sameTk (Same.new (o := .tup [V.int 5, V.int 6]) h2))).keep (sameTk (Same.new (o := .lst [V.ref a1, V.ref a2]) h3))
  have B2' := B2.keep (sameTk (Same.new (o := .lst [V.ref a1, V.ref a2]) h3))
  have B5 := td_new h5 (.cons (.str "node" (by decide +kernel)) (.cons B1' (.cons B2' .nil)))
  generalize (upd (upd (upd (upd H4 a1 (.tup [.int 3, .int 4])) a2 (.tup [.int 5, .int 6])) l3 (.lst [.ref a1, .ref a2])) t5 (.tup [.str "node", .ref a1, .ref a2])) = H5 at *
  refine ⟨(by show 2 ≤ sizeLine; decide), fun b1 k1 => ⟨(by show 2 ≤ sizeLine; decide), fun b2 k2 => ⟨(by show 3 ≤ sizeLine; decide), fun t6 k6 => ?_⟩⟩⟩
  have C1 : Td (upd H5 b1 (.tup [.int 3, .int 4])) (.ref b1) (.tuple [.int 3, .int 4]) := td_new k1 (.cons (.int 3) (.cons (.int 4) .nil))
  have C2 : Td (upd (upd H5 b1 (.tup [.int 3, .int 4])) b2 (.tup [.int 5, .int 6])) (.ref b2) (.tuple [.int 5, .int 6]) := td_new k2 (.cons (.int 5) (.cons (.int 6) .nil))
  have C1' := C1.keep (sameTk (Same.new (o := .tup [V.int 5, V.int 6]) k2))
  have C6 := td_new k6 (.cons (.str "node" (by decide +kernel)) (.cons C1' (.cons C2 .nil)))
  have B6 := B5.keep (sameTk ((Same.new (o := .tup [V.int 3, V.int 4]) k1).trans ((Same.new (o := .tup [V.int 5, V.int 6]) k2).trans (Same.new (o := .tup [V.str "node", V.ref b1, V.ref b2]) k6))))
  have e2 := (eqv_txt B6 (e := .tuple [.str "node", .tuple [.int 3, .int 4], .tuple [.int 5, .int 6]]) (by simp [txt, txtAll])).mpr rfl
  have dp2 : (PyData.tuple [.str "node", .tuple [.int 3, .int 4], .tuple [.int 5, .int 6]]).depth ≤ 64 := by simp [PyData.depth, PyData.depthAll]
  refine ⟨_, _, B6.dp, C6.dp, B6.shaped dp2, C6.shaped dp2, ?_⟩
  rw [e2]
  exact k _
end

theorem cD_lay {w f n : Nat} (h1 : w ≤ 4) (h2 : f ≤ 4) : (cD w f n).canLay0 = true := by
  have hf : f = 0 ∨ f = 1 ∨ f = 2 ∨ f = 3 ∨ f = 4 := by omega
  have hw : w = 0 ∨ w = 1 ∨ w = 2 ∨ w = 3 ∨ w = 4 := by omega
  have e1 : PyData.strOk ("leaf" : Str) = true := by decide +kernel
  have e2 : PyData.strOk ("node" : Str) = true := by decide +kernel
  cases n with
  | zero => rcases hw with rfl | rfl | rfl | rfl | rfl <;> simp [cD, List.replicate, PyData.canLay0, PyData.canLayAll0, e1]
  | succ n => rcases hf with rfl | rfl | rfl | rfl | rfl <;> simp [cD, List.replicate, PyData.canLay0, PyData.canLayAll0, e2]

/-! ### the law of blank volumes: its reads -/
theorem srt_eq : ∀ {a b : List Int}, a.Pairwise (· < ·) → b.Pairwise (· < ·) → (∀ k, k ∈ a ↔ k ∈ b) → a = b
  | [], [], _, _, _ => rfl
  | [], y :: b, _, _, h => absurd ((h y).mpr List.mem_cons_self) (by simp)
  | x :: a, [], _, _, h => absurd ((h x).mp List.mem_cons_self) (by simp)
  | x :: a, y :: b, ha, hb, h => by
    have ha' := List.pairwise_cons.mp ha
    have hb' := List.pairwise_cons.mp hb
    have e : x = y := by
      rcases List.mem_cons.mp ((h x).mp List.mem_cons_self) with e | m1
      · exact e
      rcases List.mem_cons.mp ((h y).mpr List.mem_cons_self) with e | m2
      · exact e.symm
      have := hb'.1 _ m1
      have := ha'.1 _ m2
      omega
    subst e
    refine congrArg (x :: ·) (srt_eq ha'.2 hb'.2 fun k => ⟨fun m => ?_, fun m => ?_⟩)
    · rcases List.mem_cons.mp ((h k).mp (List.mem_cons_of_mem _ m)) with e | m'
      · have := ha'.1 _ m; omega
      · exact m'
    · rcases List.mem_cons.mp ((h k).mpr (List.mem_cons_of_mem _ m)) with e | m'
      · have := hb'.1 _ m; omega
      · exact m'
def dsk (w f n : Nat) : Int → Option PyData := fun b => if 0 ≤ b ∧ b.toNat < n then some (cD w f b.toNat) else none
theorem dsk_at {w f n i : Nat} (h : i < n) : dsk w f n (i : Int) = some (cD w f i) := by
  unfold dsk
  rw [if_pos ⟨by omega, by omega⟩]
  rfl
theorem DiskOk.disk {w f n : Nat} {H : Hp} {dk : Addr} (h : DiskOk w f H dk n) : DiskD H dk (dsk w f n) := by
  obtain ⟨kvs, h1, h2, h3⟩ := h
  refine ⟨kvs, h1, fun b d hb => ?_⟩
  unfold dsk at hb
  split at hb
  · rename_i hc
    cases hb
    obtain ⟨v, q1, q2⟩ := h3 b.toNat hc.2
    rw [show ((b.toNat : Nat) : Int) = b by omega] at q1
    exact ⟨v, q1, q2⟩
  · cases hb
theorem kn_cD {w f n i : Nat} (h1 : w ≤ 4) (h2 : f ≤ 4) (h : i < n) : kn (cDs w f n) (cD w f i) ((i : Int) + 1) = true := by
  unfold kn
  rw [if_pos (by omega), show ((i : Int) + 1 - 1).toNat = i by omega, cDs, List.getElem?_map, List.getElem?_range h]
  exact SeqAt.eqv_refl _ (cD_lay h1 h2)
/-- the states of a read of a blank volume -/
def GR (w f d : Nat) (way : List Int) (i : Nat) (s : RdS) : Prop := s.n = i ∧ s.cs.length ≤ i ∧ ((i ≤ d ∧ s.b = ((d - i : Nat) : Int) ∧ s.m = ((d - i : Nat) : Int) + 1 ∧ s.q = rdQ s.b) ∨ (i = d + 1 ∧ s.q = dnQ (.tuple (List.replicate w (.int 0)))))
theorem gr_step {w f d : Nat} {way : List Int} (w1 : 1 ≤ w) (w4 : w ≤ 4) (f2 : 2 ≤ f) (f4 : f ≤ 4) (hw : way.length = d) (hk : ∀ k ∈ way, 0 ≤ k ∧ k < (f : Int)) {i : Nat} {s : RdS} (g : GR w f d way i s) (hi : i < d + 1) :
    s.q = rdQ s.b ∧ s.cs.length ≤ i ∧ ∃ c s', dsk w f (d + 1) s.b = some c ∧ c.depth ≤ 60 ∧ nd c ≤ 200 ∧ RStep (cDs w f (d + 1)) way s c s' ∧ GR w f d way (i + 1) s' := by
  obtain ⟨hn, hc, ⟨h1, hb, hm, hq⟩ | ⟨h1, _⟩⟩ := g
  case inr => omega
  obtain ⟨k1, k2, k3⟩ := cD_facts (w := w) (f := f) (n := d - i) w4 f4
  have hkn := kn_cD (w := w) (f := f) (n := d + 1) (i := d - i) w4 f4 (by omega)
  have hlen : (s.cs ++ [cD w f (d - i)]).length ≤ i + 1 := by rw [List.length_append, List.length_singleton]; omega
  by_cases e : i = d
  · refine ⟨hq, hc, cD w f (d - i), ⟨s.n + 1, s.b, s.m, s.cs ++ [cD w f (d - i)], dnQ (.tuple (List.replicate w (.int 0)))⟩, by rw [hb]; exact dsk_at (by omega), by omega, by omega, .inr ⟨by rw [hm]; exact hkn, ?_⟩, ?_⟩
    · refine ⟨.str ("leaf" : Str), List.replicate w (.int 0), by rw [show d - i = 0 by omega]; rfl, ?_, by simp; omega, .inl ⟨by omega, rfl⟩⟩
      intro z
      have := congrArg List.length z
      simp at this
      omega
    · exact ⟨by show s.n + 1 = i + 1; omega, hlen, .inr ⟨by omega, rfl⟩⟩
  · obtain ⟨l, hl⟩ : ∃ l, d - i = l + 1 := ⟨d - i - 1, by omega⟩
    have hki : i < way.length := by omega
    have kk := hk _ (List.getElem_mem hki)
    refine ⟨hq, hc, cD w f (d - i), ⟨s.n + 1, (l : Int), (l : Int) + 1, s.cs ++ [cD w f (d - i)], rdQ (l : Int)⟩, by rw [hb]; exact dsk_at (by omega), by omega, by omega, .inr ⟨by rw [hm]; exact hkn, ?_⟩, ?_⟩
    · refine ⟨.str ("node" : Str), List.replicate f (.tuple [.int (l : Int), .int ((l : Int) + 1)]), by rw [hl]; rfl, ?_, by simp; omega, .inr ⟨way[i], (l : Int), (l : Int) + 1, ?_, kk.1, ?_, rfl⟩⟩
      · intro z
        have := congrArg List.length z
        simp at this
        omega
      · rw [hn]; exact List.getElem?_eq_getElem hki
      · rw [List.getElem?_replicate, if_pos (by omega)]; rfl
    · exact ⟨by show s.n + 1 = i + 1; omega, hlen, .inl ⟨by omega, by show (l : Int) = _; omega, by show (l : Int) + 1 = _; omega, rfl⟩⟩
def stB (d i : Nat) : List (Ent × Nat) := (List.range (i + 1)).map fun j => ((((d - j : Nat) : Int), ((d - j : Nat) : Int) + 1), j)
theorem stB_succ (d i : Nat) : stB d (i + 1) = stB d i ++ [((((d - (i + 1) : Nat) : Int), ((d - (i + 1) : Nat) : Int) + 1), i + 1)] := by
  unfold stB
  rw [List.range_succ, List.map_append]
  rfl
theorem stB_len (d i : Nat) : (stB d i).length = i + 1 := by simp [stB]
theorem lvl_snoc (st : List (Ent × Nat)) (e e' : Ent) (l : Nat) : lvl (st ++ [(e', l)]) e = match lvl st e with | some x => some x | none => if e' = e then some l else none := by
  unfold lvl
  rw [List.find?_append]
  cases h : st.find? fun x => decide (x.1 = e) with
  | some x => simp
  | none =>
    by_cases q : e' = e
    · simp [q]
    · simp [q]
theorem lvl_none {st : List (Ent × Nat)} {e : Ent} (h : e ∉ st.map (·.1)) : lvl st e = none := by
  unfold lvl
  rw [Option.map_eq_none_iff, List.find?_eq_none]
  intro x hx
  simp only [decide_eq_true_eq]
  exact fun z => h (List.mem_map.mpr ⟨x, hx, z⟩)
theorem stB_not {d i m : Nat} (h : m < d - i) : (((m : Int), (m : Int) + 1) : Ent) ∉ (stB d i).map (·.1) := by
  unfold stB
  simp only [List.map_map, List.mem_map, List.mem_range, Function.comp, not_exists, not_and]
  intro j hj z
  have := congrArg Prod.fst z
  simp only at this
  omega
theorem stB_lvl {d i : Nat} (hi : i ≤ d) : lvl (stB d i) (((d - i : Nat) : Int), ((d - i : Nat) : Int) + 1) = some i := by
  cases i with
  | zero => simp [stB, lvl]
  | succ i =>
    rw [stB_succ, lvl_snoc, lvl_none (stB_not (by omega)), if_pos rfl]
theorem noteS_rep {st : List (Ent × Nat)} {e : Ent} {l : Nat} (h : lvl st e = none) : ∀ f, 1 ≤ f → noteS st (List.replicate f e) l = st ++ [(e, l)]
  | 0, h0 => absurd h0 (by decide)
  | f + 1, _ => by
    have h1 : note1 l st e = st ++ [(e, l)] := by unfold note1; rw [h]; rfl
    have h2 : ∀ n, noteS (st ++ [(e, l)]) (List.replicate n e) l = st ++ [(e, l)] := fun n => by
      induction n with
      | zero => rfl
      | succ n ih =>
        show noteS (note1 l (st ++ [(e, l)]) e) (List.replicate n e) l = _
        rw [show note1 l (st ++ [(e, l)]) e = st ++ [(e, l)] by unfold note1; rw [lvl_snoc, h, if_pos rfl]; rfl]
        exact ih
    show noteS (note1 l st e) (List.replicate f e) l = _
    rw [h1]
    exact h2 f
theorem eT_inj : ∀ {es fs : List Ent}, es.map eT = fs.map eT → es = fs
  | [], [], _ => rfl
  | [], _ :: _, h => by simp at h
  | _ :: _, [], h => by simp at h
  | (a, b) :: es, (c, d) :: fs, h => by
    simp only [List.map_cons, List.cons.injEq, eT, eE, PyData.tuple.injEq, PyData.int.injEq, and_true] at h
    rw [eT_inj h.2, h.1.1, h.1.2]
/-- the states of a scan of a blank volume -/
def GS (d : Nat) (i : Nat) (s : ScS) : Prop := s.n = i ∧ ((i ≤ d ∧ s.b = ((d - i : Nat) : Int) ∧ s.m = ((d - i : Nat) : Int) + 1 ∧ s.st = stB d i ∧ s.q = .td (rdQ s.b)) ∨ (i = d + 1 ∧ s.q = .ls ((List.range (d + 1)).map fun (k : Nat) => (k : Int))))
theorem gs_step {w f d : Nat} (d6 : d ≤ 6) (w1 : 1 ≤ w) (w4 : w ≤ 4) (f2 : 2 ≤ f) (f4 : f ≤ 4) {i : Nat} {s : ScS} (g : GS d i s) (hi : i < d + 1) :
    s.q = .td (rdQ s.b) ∧ s.st.length ≤ 900 ∧ ∃ c, dsk w f (d + 1) s.b = some c ∧ c.depth ≤ 60 ∧ nd c ≤ 200 ∧
    (kn (cDs w f (d + 1)) c s.m = true → ∃ x us l, c = .tuple (x :: us) ∧ us ≠ [] ∧ us.length ≤ 900 ∧ lvl s.st (s.b, s.m) = some l ∧ ((l : Int) < (d : Int) → ∃ es : List Ent, us = es.map eT ∧ s.st.length + es.length ≤ 900)) ∧
    ∀ s', SStep (cDs w f (d + 1)) (d : Int) s c s' → GS d (i + 1) s' := by
  obtain ⟨hn, ⟨h1, hb, hm, hst, hq⟩ | ⟨h1, _⟩⟩ := g
  case inr => omega
  obtain ⟨k1, k2, k3⟩ := cD_facts (w := w) (f := f) (n := d - i) w4 f4
  have hkn := kn_cD (w := w) (f := f) (n := d + 1) (i := d - i) w4 f4 (by omega)
  have hl : lvl s.st (s.b, s.m) = some i := by rw [hst, hb, hm]; exact stB_lvl h1
  obtain ⟨x, us, ec, une, ul, hes⟩ : ∃ x us, cD w f (d - i) = .tuple (x :: us) ∧ us ≠ [] ∧ us.length ≤ 4 ∧ (i < d → us = (List.replicate f ((((d - (i + 1) : Nat) : Int), ((d - (i + 1) : Nat) : Int) + 1) : Ent)).map eT) := by
    cases e : d - i with
    | zero => exact ⟨_, _, rfl, by intro z; have := congrArg List.length z; simp at this; omega, by simp; omega, fun h => by omega⟩
    | succ l => exact ⟨_, _, rfl, by intro z; have := congrArg List.length z; simp at this; omega, by simp; omega, fun h => by rw [List.map_replicate, show d - (i + 1) = l by omega]; rfl⟩
  refine ⟨hq, by rw [hst, stB_len]; omega, cD w f (d - i), by rw [hb]; exact dsk_at (by omega), by omega, by omega, fun _ => ⟨x, us, i, ec, une, by omega, hl, fun hid => ⟨_, hes (by omega), by rw [hst, stB_len]; simp; omega⟩⟩, fun s' st => ?_⟩
  rcases st with ⟨e0, _⟩ | ⟨_, x', us', l, st', e1, e2, hno, st⟩
  · rw [hm, hkn] at e0; cases e0
  rw [ec] at e1
  cases e1
  rw [hl] at e2
  cases e2
  by_cases hid : i < d
  · have est : st' = stB d (i + 1) := by
      rcases hno with ⟨q, _⟩ | ⟨_, es, q1, q2⟩
      · omega
      · have : es = List.replicate f ((((d - (i + 1) : Nat) : Int), ((d - (i + 1) : Nat) : Int) + 1) : Ent) := eT_inj (q1.symm.trans (hes hid))
        rw [q2, this, hst, noteS_rep (lvl_none (stB_not (by omega))) f (by omega), stB_succ]
    subst est
    rcases st with ⟨y, hy, rfl⟩ | ⟨q, _⟩
    · rw [hn, stB_succ, List.getElem?_append_right (by rw [stB_len]; exact Nat.le_refl _), stB_len, Nat.sub_self] at hy
      obtain rfl := Option.some.inj hy
      exact ⟨by show s.n + 1 = i + 1; omega, .inl ⟨by omega, rfl, rfl, rfl, rfl⟩⟩
    · rw [stB_len] at q; omega
  · have est : st' = stB d i := by
      rcases hno with ⟨_, q⟩ | ⟨q, _⟩
      · rw [q, hst]
      · omega
    subst est
    rcases st with ⟨y, hy, rfl⟩ | ⟨_, ns, s1, s2, rfl⟩
    · rw [hn, List.getElem?_eq_none (by rw [stB_len]; omega)] at hy; cases hy
    · refine ⟨by show s.n + 1 = i + 1; omega, .inr ⟨by omega, ?_⟩⟩
      show Rq.ls ns = _
      congr 1
      refine srt_eq s1 ?_ fun k => ?_
      · exact List.pairwise_map.mpr ((List.pairwise_lt_range (n := d + 1)).imp fun h => by omega)
      · rw [s2]
        simp only [stB, List.map_map, List.mem_map, List.mem_range, Function.comp]
        constructor
        · rintro ⟨j, hj, rfl⟩
          exact ⟨d - j, by omega, rfl⟩
        · rintro ⟨j, hj, rfl⟩
          exact ⟨d - j, by omega, by omega⟩

section
variable {P : Program} {w : World} {K : PySem.W.Frag} {mg : Str → Option Value} {base : Heap} {cdv : Value} {A : Around} {outer : List Env} {s0 : Shared} {H0 : Hp} {E : XK}
def doneL (ns : List Int) : PyData := .tuple [.str ("done" : Str), .list (ns.map PyData.int)]
theorem doneL_lay (ns : List Int) : (doneL ns).canLay0 = true := by
  have e : PyData.strOk ("done" : Str) = true := by decide +kernel
  simp [doneL, PyData.canLay0, PyData.canLayAll0, ints_lay, e]
theorem doneL_shaped (ns : List Int) : SeqAt.shaped (doneL ns) = true := by
  simp only [SeqAt.shaped, doneL_lay, Bool.true_and]
  refine decide_eq_true ?_
  have := ints_depth ns
  simp only [doneL, PyData.depth, PyData.depthAll]
  omega
theorem doneL_dp {K : PySem.W.Frag} {H : Hp} {r l : Addr} {ns : List Int} (h1 : H r = some (.tup [.str "done", .ref l])) (h2 : H l = some (.lst (ns.map V.int))) : Dp K H (.ref r) (doneL ns) := .tup (SqT.of h1) (.cons (.str _) (.cons (.lst (SqL.of h2) (ints_dp ns)) .nil))
theorem law_m2 (T : Txt K mg) (TF : TxF P T) (hr : Room 11 (A.deeper (PyProof.Rows.envOfC "law" (defScope s_law) s0.heap.objs.size T.f_law cdv))) :
    ∃ t, PSs (XL P w K mg base T.f_law cdv A outer s0 H0 E) ((defBody s_law).drop 12) t ∧ ∀ (D : Ends) (l0 a c sh p md tl wl an dk : Addr) (x6 x7 x8 x10 x11 : Option V) (f d wn b z : Int) (H : Hp), StA a c H → ShAt T.C_Shape H sh f d wn b z → ShOk f d wn b z →
      SeA P w T.C_Sealer H p md tl (cDs wn.toNat f.toNat (d.toNat + 1)) → Td H (.ref an) (.tuple [.str ("anchor" : Str), .int 0, .tuple [eD d.toNat]]) → DiskOk wn.toNat f.toNat H dk (d.toNat + 1) → (∀ H', D.rt (.bl true) H') →
      t D [some (.ref l0), some (.ref a), some (.ref sh), some (.ref p), some (.ref wl), some (.ref an), x6, x7, x8, some (.ref dk), x10, x11, none, none] H := by
  obtain ⟨t13, h13, k13⟩ := law_tail (E := E) (H0 := H0) (s0 := s0) (outer := outer) (base := base) (P := P) (w := w) T (hr.mono (by decide))
  have G_mount : FnOk P w K mg base CX0 6 T.f_mount T.d_mount p_mount (spMount T.C_ScanTalk T.C_Shape) := ok_mount T TF
  have G__law_drive : FnOk P w K mg base CX0 10 T.f__law_drive T.d__law_drive p__law_drive (spDrvS P w T.C_Sealer T.C_ScanTalk) := ok_drvS T
  refine ⟨_, (pss_cons (ps_if (pt_cmpR (op_neD (hr.units)) (pe_call G__law_drive (hr.mono (by decide)) rfl T.mg__law_drive T.F__law_drive.kp T.b__law_drive .nil pass0 (pa_cons (pe_call G_mount (hr.mono (by decide)) rfl T.mg_mount T.F_mount.kp T.b_mount .nil pass0 (pa_cons (pv 2) (pa_cons (pv 3) (pa_cons (pv 5) pa_nil)))) (pa_cons (pv 9) pa_nil))) (pe_tup (pa_cons pe_str (pa_cons (pe_lc (own := [("k", 12)]) (g := gName 12) (tt := tYes) rfl sc_law.nd (pi_range1 rfl T.z_range (pa_cons (pe_op op_add (pe_fld (pv 2) rfl) pe_int) pa_nil)) (blkOk_by (N := n_law) (sc := defScope s_law) (by decide +kernel)) (fun _ _ _ _ _ => (pg_name (i := 12) sc_law.nd rfl (Or.inl rfl))) (fun _ _ _ _ _ => pts_nil) (fun _ _ _ _ _ => (pv 12))) pa_nil))) (nomark _)) (pss_one (ps_ret pe_bl)) pss_nil)
      h13), ?_⟩
  intro D l0 a c sh p md tl wl an dk x6 x7 x8 x10 x11 f d wn b z H S hSh hok hSe han hdk k
  obtain ⟨dxs, hsh⟩ := id hSh
  obtain ⟨f2, f4, d1, d6, fd, w1, w4, hb1, hb2, s0', s3⟩ := id hok
  refine ⟨_, rfl, _, rfl, _, rfl, sh, p, an, f, d, wn, b, z, .int 0, ((d.toNat : Int), (d.toNat : Int) + 1), [], rfl, hSh, han, by simp, fun at_ lv en H1 n1 n2 n3 hsc S1 => ?_⟩
  have hse1 := hSe.same S1
  have nT := hSe.nN n3
  have g0 : GS d.toNat 0 ⟨0, (d.toNat : Int), (d.toNat : Int) + 1, noteS [] [((d.toNat : Int), (d.toNat : Int) + 1)] 0, .td (rdQ (d.toNat : Int))⟩ := ⟨rfl, .inl ⟨by omega, by simp, by simp, by simp [noteS, note1, lvl, stB], rfl⟩⟩
  have hdk1 : DiskOk wn.toNat f.toNat H1 dk (d.toNat + 1) := by
    obtain ⟨kvs, q1, q2, q3⟩ := hdk
    exact ⟨kvs, S1 _ _ q1, q2, fun i hi => let ⟨v, u1, u2⟩ := q3 i hi; ⟨v, u1, u2.keep (sameTk S1)⟩⟩
  refine ⟨_, rfl, at_, dk, p, lv, en, md, tl, d, _, _, d.toNat + 1, GS d.toNat, _, (List.range (d.toNat + 1)).map fun (k : Nat) => (k : Int), rfl, hsc, hse1, hdk1.disk, nT.2.2.symm, by omega, by simp; omega, g0, fun i s gi hi => ?_, fun s gn => ?_, fun r l H2 hr2 hl F => ?_⟩
  · have := gs_step (w := wn.toNat) (f := f.toNat) (d := d.toNat) (by omega) (by omega) (by omega) (by omega) (by omega) gi hi
    rw [show ((d.toNat : Nat) : Int) = d by omega] at this
    exact this
  · obtain ⟨_, ⟨h, _⟩ | ⟨_, h⟩⟩ := gn
    · omega
    · exact h
  have F0 : ∀ x o, H x = some o → H2 x = some o := fun x o e => F x o (nm3 (ne_of_none e n1) (ne_of_none e n2) (ne_of_none e n3)) (S1 _ _ e)
  have hsh2 := F0 _ _ hsh
  refine ⟨_, rfl, sh, T.C_Shape, dxs, _, _, rfl, hsh2, T.cl_Shape, T.na_Shape_depth, rfl, _, _, rfl, rfl, _, rfl, by omega, by omega, fun D2 hD2 => lc_range (n := (d + 1).toNat) (fun i H3 => H3 = upd H2 D2 (.lst (((List.range i).map fun (k : Nat) => (k : Int)).map V.int))) rfl ?_ ?_⟩
  · rintro i H3 hi rfl
    refine ⟨rfl, _, rfl, _, upd_same, small1000 (by simp; omega), ?_⟩
    rw [upd_upd, List.range_succ, List.map_append, List.map_append, show (0 : Int) + (i : Nat) = (i : Nat) from Int.zero_add _]; rfl
  · rintro H3 rfl
    refine ⟨(by show 2 ≤ sizeLine; decide), fun t ht => ?_⟩
    have S4 : Same H2 (upd (upd H2 D2 (.lst (((List.range (d + 1).toNat).map fun (k : Nat) => (k : Int)).map V.int))) t (.tup [.str "done", .ref D2])) := (Same.new hD2).trans (Same.new ht)
    have ndt : D2 ≠ t := fun y => by rw [← y, upd_same] at ht; cases ht
    rw [show (d + 1).toNat = d.toNat + 1 by omega] at *
    refine ⟨_, _, doneL_dp (S4 _ _ hr2) (S4 _ _ hl), doneL_dp (l := D2) upd_same (by rw [upd_ne ndt, upd_same]), doneL_shaped _, doneL_shaped _, _, rfl, iteNE (SeqAt.eqv_refl _ (doneL_lay _)) ?_⟩
    have F4 : Same H _ := fun x o e => S4 _ _ (F0 x o e)
    exact k13 D l0 a c sh _ _ _ _ _ _ _ _ _ _ f d wn b z _ (S.keep F4) ⟨dxs, F4 _ _ hsh⟩ hok k
theorem wayV_mem {f i : Int} {n : Nat} (h : 0 < f) : ∀ k ∈ wayV f n i, 0 ≤ k ∧ k < f := by
  intro k hk
  unfold wayV at hk
  rw [List.mem_reverse, List.mem_map] at hk
  obtain ⟨j, _, rfl⟩ := hk
  exact ⟨Int.emod_nonneg _ (by omega), Int.emod_lt_of_pos _ h⟩
theorem law_m1 (T : Txt K mg) (TF : TxF P T) (hr : Room 11 (A.deeper (PyProof.Rows.envOfC "law" (defScope s_law) s0.heap.objs.size T.f_law cdv))) :
    ∃ t, PSs (XL P w K mg base T.f_law cdv A outer s0 H0 E) ((defBody s_law).drop 10) t ∧ ∀ (D : Ends) (l0 a c sh p md tl wl an dk : Addr) (x6 x7 x8 x10 : Option V) (f d wn b z : Int) (H : Hp), StA a c H → ShAt T.C_Shape H sh f d wn b z → ShOk f d wn b z →
      SeA P w T.C_Sealer H p md tl (cDs wn.toNat f.toNat (d.toNat + 1)) → Td H (.ref an) (.tuple [.str ("anchor" : Str), .int 0, .tuple [eD d.toNat]]) → DiskOk wn.toNat f.toNat H dk (d.toNat + 1) → md ≠ a → md ≠ c → tl ≠ a → tl ≠ c → (∀ H', D.rt (.bl true) H') →
      t D [some (.ref l0), some (.ref a), some (.ref sh), some (.ref p), some (.ref wl), some (.ref an), x6, x7, x8, some (.ref dk), x10, none, none, none] H := by
  obtain ⟨t12, h12, k12⟩ := law_m2 (E := E) (H0 := H0) (s0 := s0) (outer := outer) (base := base) (P := P) (w := w) T TF hr
  have G__law_draw : FnOk P w K mg base CX0 1 T.f__law_draw T.d__law_draw p__law_draw spDraw := ok_draw T
  have G__law_leaves : FnOk P w K mg base CX0 1 T.f__law_leaves T.d__law_leaves p__law_leaves (spLeaves T.C_Shape) := ok_lleaves T
  have G_ReadTalk___init__ : FnOk P w K mg base CX0 4 T.f_ReadTalk___init__ T.d_ReadTalk___init__ p_ReadTalk___init__ (spRdInit T.C_ReadTalk T.C_Shape) := ok_rdinit T TF
  have G__law_drive : FnOk P w K mg base CX0 10 T.f__law_drive T.d__law_drive p__law_drive (spDrvR P w T.C_Sealer T.C_ReadTalk) := ok_drvR T
  refine ⟨_, (pss_cons (ps_set (i := 11) sc_law.nd rfl (Or.inl rfl) (pe_call G__law_draw (hr.mono (by decide)) rfl T.mg__law_draw T.F__law_draw.kp T.b__law_draw .nil pass0 (pa_cons (pv 1) (pa_cons (pe_call G__law_leaves (hr.mono (by decide)) rfl T.mg__law_leaves T.F__law_leaves.kp T.b__law_leaves .nil pass0 (pa_cons (pv 2) pa_nil)) pa_nil))))
      (pss_cons (ps_if (pt_cmpR (op_neD (hr.units)) (pe_call G__law_drive (hr.mono (by decide)) rfl T.mg__law_drive T.F__law_drive.kp T.b__law_drive .nil pass0 (pa_cons (pe_make T.M_ReadTalk G_ReadTalk___init__ (hr.mono (by decide)) rfl T.mg_ReadTalk (b_ReadTalk___init__ T) .nil pass0 (pa_cons (pv 2) (pa_cons (pv 3) (pa_cons (pe_ix ix_tup (pe_ix ix_tup (pv 5) pe_int (fun _ _ => rfl)) pe_int (fun _ _ => rfl)) (pa_cons (pv 11) pa_nil))))) (pa_cons (pv 9) pa_nil))) (pe_tup (pa_cons pe_str (pa_cons (pe_op op_repTA (pe_tup (pa_cons pe_int pa_nil)) (pe_fld (pv 2) rfl)) pa_nil))) (nomark _)) (pss_one (ps_ret pe_bl)) pss_nil)
      h12)), ?_⟩
  intro D l0 a c sh p md tl wl an dk x6 x7 x8 x10 f d wn b z H S hSh hok hSe han hdk ma mc ta tc k
  obtain ⟨dxs, hsh⟩ := id hSh
  obtain ⟨f2, f4, d1, d6, fd, w1, w4, hb1, hb2, s0', s3⟩ := id hok
  have fp : 1 ≤ f ^ d.toNat := Int.pow_pos (by omega)
  refine ⟨_, rfl, _, rfl, sh, f, d, wn, b, z, rfl, hSh, hok, a, c, f ^ d.toNat, rfl, S, fp, by omega, fun i H1 i0 i1 S1 K1 => ?_⟩
  have tk1 : TKeep H H1 := fun b vs e => by
    obtain ⟨ns, z, _, h1, h2, _⟩ := S
    exact K1 b _ (fun y => by rw [y, h1] at e; cases e) (fun y => by rw [y, h2] at e; cases e) e
  have nac : ∀ {x : Addr} {C dx : Addr} {fs : List (Str × V)}, H x = some (.ins C dx fs) → x ≠ a ∧ x ≠ c := fun {x C dx fs} e => by
    obtain ⟨ns, z, _, h1, h2, _⟩ := S
    exact ⟨fun y => (by rw [y, h1] at e; cases e), fun y => (by rw [y, h2] at e; cases e)⟩
  have hsh1 := K1 _ _ (nac hsh).1 (nac hsh).2 hsh
  obtain ⟨dxp, kv1, vs1, hp1, _⟩ := id hSe
  have hse1 : SeA P w T.C_Sealer H1 p md tl (cDs wn.toNat f.toNat (d.toNat + 1)) := hSe.keep tk1 (fun o e => K1 _ _ (nac hp1).1 (nac hp1).2 e) (fun o e => K1 _ _ ma mc e) (fun o e => K1 _ _ ta tc e)
  have han1 := han.keep tk1
  have hdk1 : DiskOk wn.toNat f.toNat H1 dk (d.toNat + 1) := by
    obtain ⟨kvs, q1, q2, q3⟩ := hdk
    obtain ⟨ns, z, _, h1, h2, _⟩ := S
    exact ⟨kvs, K1 _ _ (fun y => by rw [y, h1] at q1; cases q1) (fun y => by rw [y, h2] at q1; cases q1) q1, q2, fun i hi => let ⟨v, u1, u2⟩ := q3 i hi; ⟨v, u1, u2.keep tk1⟩⟩
  obtain ⟨v0, v1, tr, r0, hana, htr, hr0⟩ : ∃ v0 v1 tr r0, H1 an = some (.tup [v0, v1, .ref tr]) ∧ H1 tr = some (.tup [.ref r0]) ∧ H1 r0 = some (.tup [.int (d.toNat : Int), .int ((d.toNat : Int) + 1)]) := by
    cases han1 with
    | tup h t => cases t with | cons _ t => cases t with | cons _ t => cases t with | cons x t => cases t; cases x with | tup h2 t2 => cases t2 with | cons y t2 => cases t2; obtain ⟨r0, rfl, h3⟩ := Td.eE y; exact ⟨_, _, _, _, h, h2, h3⟩
  refine ⟨_, rfl, _, rfl, _, rfl, an, _, _, _, rfl, rfl, SqT.of hana, atI_nat (j := 2) rfl, tr, _, _, _, rfl, rfl, SqT.of htr, atI_nat (j := 0) rfl, _, rfl, ?_⟩
  intro at_ dx hat hdx nex
  have S2 := same_made hat hdx (.own at_) (.ins T.C_ReadTalk dx [])
  refine ⟨at_, dx, sh, p, r0, (d.toNat : Int), (d.toNat : Int) + 1, f, d, wn, b, z, i, rfl, upd_same, S2 _ _ hr0, ⟨dxs, S2 _ _ hsh1⟩, hok, i0, fun cl H2 hcl hrd F2 => ⟨rfl, ?_⟩⟩
  have S12 : Same H1 H2 := fun x o e => F2 x o (nm1 (ne_of_none e hat)) (S2 _ _ e)
  have ncl : H1 cl = none := by
    cases e : H1 cl with
    | none => rfl
    | some o => rw [S2 _ _ e] at hcl; cases hcl
  have nT := hse1.nN ncl
  have hdk2 : DiskOk wn.toNat f.toNat H2 dk (d.toNat + 1) := by
    obtain ⟨kvs, q1, q2, q3⟩ := hdk1
    exact ⟨kvs, S12 _ _ q1, q2, fun i hi => let ⟨v, u1, u2⟩ := q3 i hi; ⟨v, u1, u2.keep (sameTk S12)⟩⟩
  have ff : (f.toNat : Int) = f := by omega
  refine ⟨_, rfl, at_, dk, p, cl, md, tl, wayV f d.toNat i, _, _, d.toNat + 1, GR wn.toNat f.toNat d.toNat (wayV f d.toNat i), _, .tuple (List.replicate wn.toNat (.int 0)), rfl, hrd, hse1.same S12, hdk2.disk, nT.2.2.symm, by omega, ⟨rfl, by simp, .inl ⟨by omega, by simp, by simp, rfl⟩⟩, fun j s gj hj => ?_, fun s gn => ?_, fun r H3 hr3 F3 => ?_⟩
  · exact gr_step (by omega) (by omega) (by omega) (by omega) (wayV_len f d.toNat i) (fun k hk => by rw [ff]; exact wayV_mem (by omega) k hk) gj hj
  · obtain ⟨_, _, ⟨h, _⟩ | ⟨_, h⟩⟩ := gn
    · omega
    · exact h
  have S13 : Same H1 H3 := fun x o e => F3 x o (nm2 (ne_of_none e hat) (ne_of_none e ncl)) (S12 _ _ e)
  have hsh3 := S13 _ _ hsh1
  -- ("done", (0,) * shape.words)
  refine ⟨(by show 1 ≤ sizeLine; decide), fun t1 ht1 => ?_⟩
  refine ⟨_, rfl, sh, T.C_Shape, dxs, _, _, rfl, (Same.new ht1) _ _ hsh3, T.cl_Shape, T.na_Shape_words, rfl, ?_⟩
  refine rep_use upd_same w1 w4 fun t2 H4 S4 h4 => ⟨(by show 2 ≤ sizeLine; decide), fun t3 ht3 => ?_⟩
  have S5 : Same H4 (upd H4 t3 (.tup [.str "done", .ref t2])) := Same.new ht3
  have S35 : Same H3 (upd H4 t3 (.tup [.str "done", .ref t2])) := (Same.new (o := .tup [V.int 0]) ht1).trans (S4.trans S5)
  have D1 := hr3.keep (sameTk S35)
  have D2 : Td (upd H4 t3 (.tup [.str "done", .ref t2])) (.ref t3) (dnQ (.tuple (List.replicate wn.toNat (.int 0)))) := strTd upd_same (by decide +kernel) (.tup (S5 _ _ h4) (TdAll.rep (.int 0) _))
  have dp : (dnQ (.tuple (List.replicate wn.toNat (.int 0)))).depth ≤ 64 := by
    have : wn.toNat = 1 ∨ wn.toNat = 2 ∨ wn.toNat = 3 ∨ wn.toNat = 4 := by omega
    rcases this with e | e | e | e <;> rw [e] <;> simp [dnQ, PyData.depth, PyData.depthAll, List.replicate]
  refine ⟨_, _, D1.dp, D2.dp, D1.shaped dp, D2.shaped dp, _, rfl, iteNE (SeqAt.eqv_refl _ D1.lay) ?_⟩
  have S15 := S13.trans S35
  refine k12 D l0 a c sh p md tl wl an dk _ _ _ _ _ f d wn b z _ (S1.keep S15) ⟨dxs, S15 _ _ hsh1⟩ hok (hse1.same S15) (han1.keep (sameTk S15)) ?_ k
  obtain ⟨kvs, q1, q2, q3⟩ := hdk1
  exact ⟨kvs, S15 _ _ q1, q2, fun i hi => let ⟨v, u1, u2⟩ := q3 i hi; ⟨v, u1, u2.keep (sameTk S15)⟩⟩
end
def spLaw (K : PySem.W.Frag) : Sp := fun vs H Q _ => ∃ (a : Addr) (ns : List Int), vs = [.ref a] ∧ SqL K H a (ns.map V.int) ∧ ns.length ≤ 63 ∧ ∀ H', Q (.bl true) H'
theorem ok_law {P : Program} {w : World} {K : PySem.W.Frag} {mg : Str → Option Value} {base : Heap} (T : Txt K mg) (TF : TxF P T) : FnOk P w K mg base CX0 12 T.f_law T.d_law p_law (spLaw K) := by
  refine T.F_law.ok sc_law (fun vs H Q E h => ?_) (fun cdv A outer s0 H vs Q E hr h => ?_)
  · obtain ⟨a, ns, rfl, _⟩ := h
    rfl
  · obtain ⟨l0, ns, rfl, hl, hlen, k⟩ := h
    obtain ⟨t10, h10, k10⟩ := law_m1 (E := E) (H0 := H) (s0 := s0) (outer := outer) (base := base) (P := P) (w := w) T TF hr
    obtain ⟨t8, h8, k8⟩ := law_disk (E := E) (H0 := H) (s0 := s0) (outer := outer) (base := base) (P := P) (w := w) T (hr.mono (by decide)) h10
    obtain ⟨t4, h4, k4⟩ := law_due (E := E) (H0 := H) (s0 := s0) (outer := outer) (base := base) (P := P) (w := w) T (hr.mono (by decide)) h8
    obtain ⟨t0, h0, k0⟩ := law_head (E := E) (H0 := H) (s0 := s0) (outer := outer) (base := base) (P := P) (w := w) T (hr.mono (by decide)) h4
    refine ⟨t0, h0, k0 _ l0 ns H hl hlen fun a c sh p md tl wl an f d wn b z us H1 hSh hok S hSe hwl hus han => ?_⟩
    refine k4 _ l0 a sh p wl an f d wn b z us H1 hSh hok hwl hus han fun cell dl lv H2 S2 => ?_
    obtain ⟨dxs, hsh⟩ := hSh
    refine k8 _ l0 a c sh p md tl wl an cell dl lv f d wn b z us H2 ⟨dxs, S2 _ _ hsh⟩ hok (S.keep S2) (hSe.same S2) (S2 _ _ hwl) (hus.keep (sameTk S2)) fun cell bk H3 dk S3 hd => ?_
    have S13 := S2.trans S3
    obtain ⟨_, kvs, vs, hp, hm, ht, htd, _⟩ := id hSe
    obtain ⟨ns', z', q0, q1, q2, _⟩ := id S
    refine k10 _ l0 a c sh p md tl wl an dk _ _ _ _ f d wn b z H3 (S.keep S13) ⟨dxs, S13 _ _ hsh⟩ hok (hSe.same S13) (han.keep (sameTk S13)) hd (fun y => ?_) (fun y => ?_) (fun y => ?_) (fun y => ?_) k
    · rw [y, q1] at hm; exact (lst_mkd (Option.some.inj hm)).elim
    · rw [y, q2] at hm; exact (lst_mkd (Option.some.inj hm)).elim
    · rw [y, q1] at ht
      cases ht
      obtain ⟨e, u1, u2⟩ := htd.get (i := 1) (v := .int z') rfl
      rw [cDs, List.getElem?_map] at u1
      cases hh : (List.range (d.toNat + 1))[1]? with
      | none => rw [hh] at u1; cases u1
      | some j => rw [hh] at u1; cases u1; cases j <;> cases u2
    · rw [y, q2] at ht
      cases ht
      have hlen := htd.length
      rw [List.length_map, cDs_len] at hlen
      obtain ⟨n0, hn0⟩ : ∃ n0, ns'[0]? = some n0 := ⟨_, List.getElem?_eq_getElem (by omega)⟩
      obtain ⟨e, u1, u2⟩ := htd.get (i := 0) (v := .int n0) (by rw [List.getElem?_map, hn0]; rfl)
      rw [cDs, List.getElem?_map] at u1
      cases hh : (List.range (d.toNat + 1))[0]? with
      | none => rw [hh] at u1; cases u1
      | some j => rw [hh] at u1; cases u1; cases j <;> cases u2

set_option maxHeartbeats 0 in
theorem all_mk {l : PySem.W.OpenLaw} {w : World} {K : PySem.W.Frag} {h : Heap} {mg : Str → Option Value} {fa : Addr} (X : K.In h) (G : h.Ns mainGlobals mg) (hfa : mg "law" = some (.ref fa))
    {f0 : Addr} {od0 an0 : Option Addr} {sl0 : Array (Option Value)} {oc0 kV0 dc0 pm0 cd0 ct0 : Value}
    {f1 : Addr} {od1 an1 : Option Addr} {sl1 : Array (Option Value)} {oc1 kV1 dc1 pm1 cd1 ct1 : Value}
    {f2 : Addr} {od2 an2 : Option Addr} {sl2 : Array (Option Value)} {oc2 kV2 dc2 pm2 cd2 ct2 : Value}
    {f3 : Addr} {od3 an3 : Option Addr} {sl3 : Array (Option Value)} {oc3 kV3 dc3 pm3 cd3 ct3 : Value}
    {f4 : Addr} {od4 an4 : Option Addr} {sl4 : Array (Option Value)} {oc4 kV4 dc4 pm4 cd4 ct4 : Value}
    {f5 : Addr} {od5 an5 : Option Addr} {sl5 : Array (Option Value)} {oc5 kV5 dc5 pm5 cd5 ct5 : Value}
    {f6 : Addr} {od6 an6 : Option Addr} {sl6 : Array (Option Value)} {oc6 kV6 dc6 pm6 cd6 ct6 : Value}
    {f7 : Addr} {od7 an7 : Option Addr} {sl7 : Array (Option Value)} {oc7 kV7 dc7 pm7 cd7 ct7 : Value}
    {f8 : Addr} {od8 an8 : Option Addr} {sl8 : Array (Option Value)} {oc8 kV8 dc8 pm8 cd8 ct8 : Value}
    {f9 : Addr} {od9 an9 : Option Addr} {sl9 : Array (Option Value)} {oc9 kV9 dc9 pm9 cd9 ct9 : Value}
    {f10 : Addr} {od10 an10 : Option Addr} {sl10 : Array (Option Value)} {oc10 kV10 dc10 pm10 cd10 ct10 : Value}
    {f11 : Addr} {od11 an11 : Option Addr} {sl11 : Array (Option Value)} {oc11 kV11 dc11 pm11 cd11 ct11 : Value}
    {f12 : Addr} {od12 an12 : Option Addr} {sl12 : Array (Option Value)} {oc12 dc12 pm12 cd12 ct12 : Value}
    {kD12 : Addr} {tD12 : Tok}
    {f13 : Addr} {od13 an13 : Option Addr} {sl13 : Array (Option Value)} {oc13 kV13 dc13 pm13 cd13 ct13 : Value}
    {f14 : Addr} {od14 an14 : Option Addr} {sl14 : Array (Option Value)} {oc14 kV14 dc14 pm14 cd14 ct14 : Value}
    {f15 : Addr} {od15 an15 : Option Addr} {sl15 : Array (Option Value)} {oc15 kV15 dc15 pm15 cd15 ct15 : Value}
    {f16 : Addr} {od16 an16 : Option Addr} {sl16 : Array (Option Value)} {oc16 kV16 dc16 pm16 cd16 ct16 : Value}
    {f17 : Addr} {od17 an17 : Option Addr} {sl17 : Array (Option Value)} {oc17 kV17 dc17 pm17 cd17 ct17 : Value}
    {f18 : Addr} {od18 an18 : Option Addr} {sl18 : Array (Option Value)} {oc18 kV18 dc18 pm18 cd18 ct18 : Value}
    {f19 : Addr} {od19 an19 : Option Addr} {sl19 : Array (Option Value)} {oc19 kV19 dc19 pm19 cd19 ct19 : Value}
    {f20 : Addr} {od20 an20 : Option Addr} {sl20 : Array (Option Value)} {oc20 kV20 dc20 pm20 cd20 ct20 : Value}
    {f21 : Addr} {od21 an21 : Option Addr} {sl21 : Array (Option Value)} {oc21 kV21 dc21 pm21 cd21 ct21 : Value}
    {f22 : Addr} {od22 an22 : Option Addr} {sl22 : Array (Option Value)} {oc22 kV22 dc22 pm22 cd22 ct22 : Value}
    {f23 : Addr} {od23 an23 : Option Addr} {sl23 : Array (Option Value)} {oc23 kV23 dc23 pm23 cd23 ct23 : Value}
    {f24 : Addr} {od24 an24 : Option Addr} {sl24 : Array (Option Value)} {oc24 kV24 dc24 pm24 cd24 ct24 : Value}
    {f25 : Addr} {od25 an25 : Option Addr} {sl25 : Array (Option Value)} {oc25 kV25 dc25 pm25 cd25 ct25 : Value}
    {f26 : Addr} {od26 an26 : Option Addr} {sl26 : Array (Option Value)} {oc26 kV26 dc26 pm26 cd26 ct26 : Value}
    {f27 : Addr} {od27 an27 : Option Addr} {sl27 : Array (Option Value)} {oc27 kV27 dc27 pm27 cd27 ct27 : Value}
    {f28 : Addr} {od28 an28 : Option Addr} {sl28 : Array (Option Value)} {oc28 kV28 dc28 pm28 cd28 ct28 : Value}
    {f29 : Addr} {od29 an29 : Option Addr} {sl29 : Array (Option Value)} {oc29 kV29 dc29 pm29 cd29 ct29 : Value}
    {f30 : Addr} {od30 an30 : Option Addr} {sl30 : Array (Option Value)} {oc30 kV30 dc30 pm30 cd30 ct30 : Value}
    {f31 : Addr} {od31 an31 : Option Addr} {sl31 : Array (Option Value)} {oc31 kV31 dc31 pm31 cd31 ct31 : Value}
    {f32 : Addr} {od32 an32 : Option Addr} {sl32 : Array (Option Value)} {oc32 kV32 dc32 pm32 cd32 ct32 : Value}
    {f33 : Addr} {od33 an33 : Option Addr} {sl33 : Array (Option Value)} {oc33 kV33 dc33 pm33 cd33 ct33 : Value}
    {f34 : Addr} {od34 an34 : Option Addr} {sl34 : Array (Option Value)} {oc34 kV34 dc34 pm34 cd34 ct34 : Value}
    {f35 : Addr} {od35 an35 : Option Addr} {sl35 : Array (Option Value)} {oc35 kV35 dc35 pm35 cd35 ct35 : Value}
    {f36 : Addr} {od36 an36 : Option Addr} {sl36 : Array (Option Value)} {oc36 kV36 dc36 pm36 cd36 ct36 : Value}
    {C_Sealer : Addr}
    {C_Shape : Addr}
    {C_Talk : Addr}
    {C_CellTalk : Addr}
    {C_ReadTalk : Addr}
    {C_ScanTalk : Addr}
    {t_MOST_DEPTH : Tok}
    {t_MOST_LEAVES : Tok}
    {t_MOST_BLOCKS : Tok}
    {f_CellTalk___init__ cda_CellTalk___init__ cc_CellTalk___init__ : Addr} {an_CellTalk___init__ od_CellTalk___init__ cdd_CellTalk___init__ cld_CellTalk___init__ : Option Addr} {sl_CellTalk___init__ ccs_CellTalk___init__ csl_CellTalk___init__ : Array (Option Value)} {oc_CellTalk___init__ kV_CellTalk___init__ dc_CellTalk___init__ pm_CellTalk___init__ ct_CellTalk___init__ ccl_CellTalk___init__ cl_CellTalk___init__ : Value} {vs_CellTalk___init__ : Array Value} {file_CellTalk___init__ : Str} {tf_CellTalk___init__ : Tok}
    {f_ReadTalk___init__ cda_ReadTalk___init__ cc_ReadTalk___init__ : Addr} {an_ReadTalk___init__ od_ReadTalk___init__ cdd_ReadTalk___init__ cld_ReadTalk___init__ : Option Addr} {sl_ReadTalk___init__ ccs_ReadTalk___init__ csl_ReadTalk___init__ : Array (Option Value)} {oc_ReadTalk___init__ kV_ReadTalk___init__ dc_ReadTalk___init__ pm_ReadTalk___init__ ct_ReadTalk___init__ ccl_ReadTalk___init__ cl_ReadTalk___init__ : Value} {vs_ReadTalk___init__ : Array Value} {file_ReadTalk___init__ : Str} {tf_ReadTalk___init__ : Tok}
    {f_ScanTalk___init__ cda_ScanTalk___init__ cc_ScanTalk___init__ : Addr} {an_ScanTalk___init__ od_ScanTalk___init__ cdd_ScanTalk___init__ cld_ScanTalk___init__ : Option Addr} {sl_ScanTalk___init__ ccs_ScanTalk___init__ csl_ScanTalk___init__ : Array (Option Value)} {oc_ScanTalk___init__ kV_ScanTalk___init__ dc_ScanTalk___init__ pm_ScanTalk___init__ ct_ScanTalk___init__ ccl_ScanTalk___init__ cl_ScanTalk___init__ : Value} {vs_ScanTalk___init__ : Array Value} {file_ScanTalk___init__ : Str} {tf_ScanTalk___init__ : Tok}
    (aCSealer : PySem.W.nsIn K mainGlobals "Sealer" = some (some (.ref C_Sealer)))
    (aCShape : PySem.W.nsIn K mainGlobals "Shape" = some (some (.ref C_Shape)))
    (aCTalk : PySem.W.nsIn K mainGlobals "Talk" = some (some (.ref C_Talk)))
    (aCCellTalk : PySem.W.nsIn K mainGlobals "CellTalk" = some (some (.ref C_CellTalk)))
    (aCReadTalk : PySem.W.nsIn K mainGlobals "ReadTalk" = some (some (.ref C_ReadTalk)))
    (aCScanTalk : PySem.W.nsIn K mainGlobals "ScanTalk" = some (some (.ref C_ScanTalk)))
    (a0 : PySem.W.nsIn K mainGlobals "leaf" = some (some (.ref f0)))
    (l0 : K.lookup f0 = some ⟨oc0, od0, .func (PySem.W.fnOf "leaf" "leaf" (defArgs s_leaf) (defBody s_leaf) (defScope s_leaf) .none kV0 dc0 pm0 an0 cd0 ct0), sl0⟩)
    (c0 : PySem.W.codeIn K cd0 "leaf" = true)
    (k0 : PySem.W.keepIn K (.ref f0) = true)
    (a1 : PySem.W.nsIn K mainGlobals "node" = some (some (.ref f1)))
    (l1 : K.lookup f1 = some ⟨oc1, od1, .func (PySem.W.fnOf "node" "node" (defArgs s_node) (defBody s_node) (defScope s_node) .none kV1 dc1 pm1 an1 cd1 ct1), sl1⟩)
    (c1 : PySem.W.codeIn K cd1 "node" = true)
    (k1 : PySem.W.keepIn K (.ref f1) = true)
    (a2 : PySem.W.nsIn K mainGlobals "parts" = some (some (.ref f2)))
    (l2 : K.lookup f2 = some ⟨oc2, od2, .func (PySem.W.fnOf "parts" "parts" (defArgs s_parts) (defBody s_parts) (defScope s_parts) .none kV2 dc2 pm2 an2 cd2 ct2), sl2⟩)
    (c2 : PySem.W.codeIn K cd2 "parts" = true)
    (k2 : PySem.W.keepIn K (.ref f2) = true)
    (a3 : PySem.W.nsIn K mainGlobals "blank_volume" = some (some (.ref f3)))
    (l3 : K.lookup f3 = some ⟨oc3, od3, .func (PySem.W.fnOf "blank_volume" "blank_volume" (defArgs s_blank_volume) (defBody s_blank_volume) (defScope s_blank_volume) .none kV3 dc3 pm3 an3 cd3 ct3), sl3⟩)
    (c3 : PySem.W.codeIn K cd3 "blank_volume" = true)
    (k3 : PySem.W.keepIn K (.ref f3) = true)
    (a4 : PySem.W.nsIn K mainGlobals "spelled" = some (some (.ref f4)))
    (l4 : K.lookup f4 = some ⟨oc4, od4, .func (PySem.W.fnOf "spelled" "spelled" (defArgs s_spelled) (defBody s_spelled) (defScope s_spelled) .none kV4 dc4 pm4 an4 cd4 ct4), sl4⟩)
    (c4 : PySem.W.codeIn K cd4 "spelled" = true)
    (k4 : PySem.W.keepIn K (.ref f4) = true)
    (a5 : PySem.W.nsIn K mainGlobals "is_same" = some (some (.ref f5)))
    (l5 : K.lookup f5 = some ⟨oc5, od5, .func (PySem.W.fnOf "is_same" "is_same" (defArgs s_is_same) (defBody s_is_same) (defScope s_is_same) .none kV5 dc5 pm5 an5 cd5 ct5), sl5⟩)
    (c5 : PySem.W.codeIn K cd5 "is_same" = true)
    (k5 : PySem.W.keepIn K (.ref f5) = true)
    (a6 : PySem.W.findIn K (.ref C_Sealer) "__init__" = some (some (.ref f6)))
    (i6 : PySem.W.isFn K (.ref f6) = true)
    (l6 : K.lookup f6 = some ⟨oc6, od6, .func (PySem.W.fnOf "__init__" "Sealer.__init__" (defArgs s_Sealer___init__) (defBody s_Sealer___init__) (defScope s_Sealer___init__) .none kV6 dc6 pm6 an6 cd6 ct6), sl6⟩)
    (c6 : PySem.W.codeIn K cd6 "Sealer.__init__" = true)
    (k6 : PySem.W.keepIn K (.ref f6) = true)
    (a7 : PySem.W.findIn K (.ref C_Sealer) "mark" = some (some (.ref f7)))
    (i7 : PySem.W.isFn K (.ref f7) = true)
    (l7 : K.lookup f7 = some ⟨oc7, od7, .func (PySem.W.fnOf "mark" "Sealer.mark" (defArgs s_Sealer_mark) (defBody s_Sealer_mark) (defScope s_Sealer_mark) .none kV7 dc7 pm7 an7 cd7 ct7), sl7⟩)
    (c7 : PySem.W.codeIn K cd7 "Sealer.mark" = true)
    (k7 : PySem.W.keepIn K (.ref f7) = true)
    (a8 : PySem.W.findIn K (.ref C_Sealer) "knows" = some (some (.ref f8)))
    (i8 : PySem.W.isFn K (.ref f8) = true)
    (l8 : K.lookup f8 = some ⟨oc8, od8, .func (PySem.W.fnOf "knows" "Sealer.knows" (defArgs s_Sealer_knows) (defBody s_Sealer_knows) (defScope s_Sealer_knows) .none kV8 dc8 pm8 an8 cd8 ct8), sl8⟩)
    (c8 : PySem.W.codeIn K cd8 "Sealer.knows" = true)
    (k8 : PySem.W.keepIn K (.ref f8) = true)
    (a9 : PySem.W.nsIn K mainGlobals "leaves_below" = some (some (.ref f9)))
    (l9 : K.lookup f9 = some ⟨oc9, od9, .func (PySem.W.fnOf "leaves_below" "leaves_below" (defArgs s_leaves_below) (defBody s_leaves_below) (defScope s_leaves_below) .none kV9 dc9 pm9 an9 cd9 ct9), sl9⟩)
    (c9 : PySem.W.codeIn K cd9 "leaves_below" = true)
    (k9 : PySem.W.keepIn K (.ref f9) = true)
    (a10 : PySem.W.nsIn K mainGlobals "is_depth" = some (some (.ref f10)))
    (l10 : K.lookup f10 = some ⟨oc10, od10, .func (PySem.W.fnOf "is_depth" "is_depth" (defArgs s_is_depth) (defBody s_is_depth) (defScope s_is_depth) .none kV10 dc10 pm10 an10 cd10 ct10), sl10⟩)
    (c10 : PySem.W.codeIn K cd10 "is_depth" = true)
    (k10 : PySem.W.keepIn K (.ref f10) = true)
    (a11 : PySem.W.nsIn K mainGlobals "out_of_range" = some (some (.ref f11)))
    (l11 : K.lookup f11 = some ⟨oc11, od11, .func (PySem.W.fnOf "out_of_range" "out_of_range" (defArgs s_out_of_range) (defBody s_out_of_range) (defScope s_out_of_range) .none kV11 dc11 pm11 an11 cd11 ct11), sl11⟩)
    (c11 : PySem.W.codeIn K cd11 "out_of_range" = true)
    (k11 : PySem.W.keepIn K (.ref f11) = true)
    (a12 : PySem.W.findIn K (.ref C_Shape) "__init__" = some (some (.ref f12)))
    (i12 : PySem.W.isFn K (.ref f12) = true)
    (l12 : K.lookup f12 = some ⟨oc12, od12, .func (PySem.W.fnOf "__init__" "Shape.__init__" (defArgs s_Shape___init__) (defBody s_Shape___init__) (defScope s_Shape___init__) .none (.ref kD12) dc12 pm12 an12 cd12 ct12), sl12⟩)
    (c12 : PySem.W.codeIn K cd12 "Shape.__init__" = true)
    (k12 : PySem.W.keepIn K (.ref f12) = true)
    (q12 : PySem.W.nsIn K kD12 "snapshots" = some (some (.int 0 tD12)))
    (a13 : PySem.W.findIn K (.ref C_Shape) "leaves" = some (some (.ref f13)))
    (i13 : PySem.W.isFn K (.ref f13) = true)
    (l13 : K.lookup f13 = some ⟨oc13, od13, .func (PySem.W.fnOf "leaves" "Shape.leaves" (defArgs s_Shape_leaves) (defBody s_Shape_leaves) (defScope s_Shape_leaves) .none kV13 dc13 pm13 an13 cd13 ct13), sl13⟩)
    (c13 : PySem.W.codeIn K cd13 "Shape.leaves" = true)
    (k13 : PySem.W.keepIn K (.ref f13) = true)
    (a14 : PySem.W.findIn K (.ref C_Shape) "way" = some (some (.ref f14)))
    (i14 : PySem.W.isFn K (.ref f14) = true)
    (l14 : K.lookup f14 = some ⟨oc14, od14, .func (PySem.W.fnOf "way" "Shape.way" (defArgs s_Shape_way) (defBody s_Shape_way) (defScope s_Shape_way) .none kV14 dc14 pm14 an14 cd14 ct14), sl14⟩)
    (c14 : PySem.W.codeIn K cd14 "Shape.way" = true)
    (k14 : PySem.W.keepIn K (.ref f14) = true)
    (a15 : PySem.W.findIn K (.ref C_Shape) "cells" = some (some (.ref f15)))
    (i15 : PySem.W.isFn K (.ref f15) = true)
    (l15 : K.lookup f15 = some ⟨oc15, od15, .func (PySem.W.fnOf "cells" "Shape.cells" (defArgs s_Shape_cells) (defBody s_Shape_cells) (defScope s_Shape_cells) .none kV15 dc15 pm15 an15 cd15 ct15), sl15⟩)
    (c15 : PySem.W.codeIn K cd15 "Shape.cells" = true)
    (k15 : PySem.W.keepIn K (.ref f15) = true)
    (a16 : PySem.W.findIn K (.ref C_Shape) "ample" = some (some (.ref f16)))
    (i16 : PySem.W.isFn K (.ref f16) = true)
    (l16 : K.lookup f16 = some ⟨oc16, od16, .func (PySem.W.fnOf "ample" "Shape.ample" (defArgs s_Shape_ample) (defBody s_Shape_ample) (defScope s_Shape_ample) .none kV16 dc16 pm16 an16 cd16 ct16), sl16⟩)
    (c16 : PySem.W.codeIn K cd16 "Shape.ample" = true)
    (k16 : PySem.W.keepIn K (.ref f16) = true)
    (a17 : PySem.W.nsIn K mainGlobals "apart" = some (some (.ref f17)))
    (l17 : K.lookup f17 = some ⟨oc17, od17, .func (PySem.W.fnOf "apart" "apart" (defArgs s_apart) (defBody s_apart) (defScope s_apart) .none kV17 dc17 pm17 an17 cd17 ct17), sl17⟩)
    (c17 : PySem.W.codeIn K cd17 "apart" = true)
    (k17 : PySem.W.keepIn K (.ref f17) = true)
    (a18 : PySem.W.findIn K (.ref C_Talk) "__init__" = some (some (.ref f18)))
    (i18 : PySem.W.isFn K (.ref f18) = true)
    (l18 : K.lookup f18 = some ⟨oc18, od18, .func (PySem.W.fnOf "__init__" "Talk.__init__" (defArgs s_Talk___init__) (defBody s_Talk___init__) (defScope s_Talk___init__) .none kV18 dc18 pm18 an18 cd18 ct18), sl18⟩)
    (c18 : PySem.W.codeIn K cd18 "Talk.__init__" = true)
    (k18 : PySem.W.keepIn K (.ref f18) = true)
    (a19 : PySem.W.findIn K (.ref C_Talk) "request" = some (some (.ref f19)))
    (i19 : PySem.W.isFn K (.ref f19) = true)
    (l19 : K.lookup f19 = some ⟨oc19, od19, .func (PySem.W.fnOf "request" "Talk.request" (defArgs s_Talk_request) (defBody s_Talk_request) (defScope s_Talk_request) .none kV19 dc19 pm19 an19 cd19 ct19), sl19⟩)
    (c19 : PySem.W.codeIn K cd19 "Talk.request" = true)
    (k19 : PySem.W.keepIn K (.ref f19) = true)
    (a20 : PySem.W.findIn K (.ref C_Talk) "has_ended" = some (some (.ref f20)))
    (i20 : PySem.W.isFn K (.ref f20) = true)
    (l20 : K.lookup f20 = some ⟨oc20, od20, .func (PySem.W.fnOf "has_ended" "Talk.has_ended" (defArgs s_Talk_has_ended) (defBody s_Talk_has_ended) (defScope s_Talk_has_ended) .none kV20 dc20 pm20 an20 cd20 ct20), sl20⟩)
    (c20 : PySem.W.codeIn K cd20 "Talk.has_ended" = true)
    (k20 : PySem.W.keepIn K (.ref f20) = true)
    (a21 : PySem.W.findIn K (.ref C_Talk) "answer" = some (some (.ref f21)))
    (i21 : PySem.W.isFn K (.ref f21) = true)
    (l21 : K.lookup f21 = some ⟨oc21, od21, .func (PySem.W.fnOf "answer" "Talk.answer" (defArgs s_Talk_answer) (defBody s_Talk_answer) (defScope s_Talk_answer) .none kV21 dc21 pm21 an21 cd21 ct21), sl21⟩)
    (c21 : PySem.W.codeIn K cd21 "Talk.answer" = true)
    (k21 : PySem.W.keepIn K (.ref f21) = true)
    (a22 : PySem.W.findIn K (.ref C_Talk) "following" = some (some (.ref f22)))
    (i22 : PySem.W.isFn K (.ref f22) = true)
    (l22 : K.lookup f22 = some ⟨oc22, od22, .func (PySem.W.fnOf "following" "Talk.following" (defArgs s_Talk_following) (defBody s_Talk_following) (defScope s_Talk_following) .none kV22 dc22 pm22 an22 cd22 ct22), sl22⟩)
    (c22 : PySem.W.codeIn K cd22 "Talk.following" = true)
    (k22 : PySem.W.keepIn K (.ref f22) = true)
    (a23 : PySem.W.findIn K (.ref C_CellTalk) "following" = some (some (.ref f23)))
    (i23 : PySem.W.isFn K (.ref f23) = true)
    (l23 : K.lookup f23 = some ⟨oc23, od23, .func (PySem.W.fnOf "following" "CellTalk.following" (defArgs s_CellTalk_following) (defBody s_CellTalk_following) (defScope s_CellTalk_following) .none kV23 dc23 pm23 an23 cd23 ct23), sl23⟩)
    (c23 : PySem.W.codeIn K cd23 "CellTalk.following" = true)
    (k23 : PySem.W.keepIn K (.ref f23) = true)
    (a24 : PySem.W.findIn K (.ref C_CellTalk) "accepted" = some (some (.ref f24)))
    (i24 : PySem.W.isFn K (.ref f24) = true)
    (l24 : K.lookup f24 = some ⟨oc24, od24, .func (PySem.W.fnOf "accepted" "CellTalk.accepted" (defArgs s_CellTalk_accepted) (defBody s_CellTalk_accepted) (defScope s_CellTalk_accepted) .none kV24 dc24 pm24 an24 cd24 ct24), sl24⟩)
    (c24 : PySem.W.codeIn K cd24 "CellTalk.accepted" = true)
    (k24 : PySem.W.keepIn K (.ref f24) = true)
    (a25 : PySem.W.findIn K (.ref C_CellTalk) "reading" = some (some (.ref f25)))
    (i25 : PySem.W.isFn K (.ref f25) = true)
    (l25 : K.lookup f25 = some ⟨oc25, od25, .func (PySem.W.fnOf "reading" "CellTalk.reading" (defArgs s_CellTalk_reading) (defBody s_CellTalk_reading) (defScope s_CellTalk_reading) .none kV25 dc25 pm25 an25 cd25 ct25), sl25⟩)
    (c25 : PySem.W.codeIn K cd25 "CellTalk.reading" = true)
    (k25 : PySem.W.keepIn K (.ref f25) = true)
    (a26 : PySem.W.findIn K (.ref C_ReadTalk) "accepted" = some (some (.ref f26)))
    (i26 : PySem.W.isFn K (.ref f26) = true)
    (l26 : K.lookup f26 = some ⟨oc26, od26, .func (PySem.W.fnOf "accepted" "ReadTalk.accepted" (defArgs s_ReadTalk_accepted) (defBody s_ReadTalk_accepted) (defScope s_ReadTalk_accepted) .none kV26 dc26 pm26 an26 cd26 ct26), sl26⟩)
    (c26 : PySem.W.codeIn K cd26 "ReadTalk.accepted" = true)
    (k26 : PySem.W.keepIn K (.ref f26) = true)
    (a27 : PySem.W.findIn K (.ref C_ScanTalk) "note" = some (some (.ref f27)))
    (i27 : PySem.W.isFn K (.ref f27) = true)
    (l27 : K.lookup f27 = some ⟨oc27, od27, .func (PySem.W.fnOf "note" "ScanTalk.note" (defArgs s_ScanTalk_note) (defBody s_ScanTalk_note) (defScope s_ScanTalk_note) .none kV27 dc27 pm27 an27 cd27 ct27), sl27⟩)
    (c27 : PySem.W.codeIn K cd27 "ScanTalk.note" = true)
    (k27 : PySem.W.keepIn K (.ref f27) = true)
    (a28 : PySem.W.findIn K (.ref C_ScanTalk) "accepted" = some (some (.ref f28)))
    (i28 : PySem.W.isFn K (.ref f28) = true)
    (l28 : K.lookup f28 = some ⟨oc28, od28, .func (PySem.W.fnOf "accepted" "ScanTalk.accepted" (defArgs s_ScanTalk_accepted) (defBody s_ScanTalk_accepted) (defScope s_ScanTalk_accepted) .none kV28 dc28 pm28 an28 cd28 ct28), sl28⟩)
    (c28 : PySem.W.codeIn K cd28 "ScanTalk.accepted" = true)
    (k28 : PySem.W.keepIn K (.ref f28) = true)
    (a29 : PySem.W.nsIn K mainGlobals "mount" = some (some (.ref f29)))
    (l29 : K.lookup f29 = some ⟨oc29, od29, .func (PySem.W.fnOf "mount" "mount" (defArgs s_mount) (defBody s_mount) (defScope s_mount) .none kV29 dc29 pm29 an29 cd29 ct29), sl29⟩)
    (c29 : PySem.W.codeIn K cd29 "mount" = true)
    (k29 : PySem.W.keepIn K (.ref f29) = true)
    (a30 : PySem.W.nsIn K mainGlobals "_law_state" = some (some (.ref f30)))
    (l30 : K.lookup f30 = some ⟨oc30, od30, .func (PySem.W.fnOf "_law_state" "_law_state" (defArgs s__law_state) (defBody s__law_state) (defScope s__law_state) .none kV30 dc30 pm30 an30 cd30 ct30), sl30⟩)
    (c30 : PySem.W.codeIn K cd30 "_law_state" = true)
    (k30 : PySem.W.keepIn K (.ref f30) = true)
    (a31 : PySem.W.nsIn K mainGlobals "_law_draw" = some (some (.ref f31)))
    (l31 : K.lookup f31 = some ⟨oc31, od31, .func (PySem.W.fnOf "_law_draw" "_law_draw" (defArgs s__law_draw) (defBody s__law_draw) (defScope s__law_draw) .none kV31 dc31 pm31 an31 cd31 ct31), sl31⟩)
    (c31 : PySem.W.codeIn K cd31 "_law_draw" = true)
    (k31 : PySem.W.keepIn K (.ref f31) = true)
    (a32 : PySem.W.nsIn K mainGlobals "_law_shape" = some (some (.ref f32)))
    (l32 : K.lookup f32 = some ⟨oc32, od32, .func (PySem.W.fnOf "_law_shape" "_law_shape" (defArgs s__law_shape) (defBody s__law_shape) (defScope s__law_shape) .none kV32 dc32 pm32 an32 cd32 ct32), sl32⟩)
    (c32 : PySem.W.codeIn K cd32 "_law_shape" = true)
    (k32 : PySem.W.keepIn K (.ref f32) = true)
    (a33 : PySem.W.nsIn K mainGlobals "_law_leaves" = some (some (.ref f33)))
    (l33 : K.lookup f33 = some ⟨oc33, od33, .func (PySem.W.fnOf "_law_leaves" "_law_leaves" (defArgs s__law_leaves) (defBody s__law_leaves) (defScope s__law_leaves) .none kV33 dc33 pm33 an33 cd33 ct33), sl33⟩)
    (c33 : PySem.W.codeIn K cd33 "_law_leaves" = true)
    (k33 : PySem.W.keepIn K (.ref f33) = true)
    (a34 : PySem.W.nsIn K mainGlobals "_law_words" = some (some (.ref f34)))
    (l34 : K.lookup f34 = some ⟨oc34, od34, .func (PySem.W.fnOf "_law_words" "_law_words" (defArgs s__law_words) (defBody s__law_words) (defScope s__law_words) .none kV34 dc34 pm34 an34 cd34 ct34), sl34⟩)
    (c34 : PySem.W.codeIn K cd34 "_law_words" = true)
    (k34 : PySem.W.keepIn K (.ref f34) = true)
    (a35 : PySem.W.nsIn K mainGlobals "_law_drive" = some (some (.ref f35)))
    (l35 : K.lookup f35 = some ⟨oc35, od35, .func (PySem.W.fnOf "_law_drive" "_law_drive" (defArgs s__law_drive) (defBody s__law_drive) (defScope s__law_drive) .none kV35 dc35 pm35 an35 cd35 ct35), sl35⟩)
    (c35 : PySem.W.codeIn K cd35 "_law_drive" = true)
    (k35 : PySem.W.keepIn K (.ref f35) = true)
    (a36 : PySem.W.nsIn K mainGlobals "law" = some (some (.ref f36)))
    (l36 : K.lookup f36 = some ⟨oc36, od36, .func (PySem.W.fnOf "law" "law" (defArgs s_law) (defBody s_law) (defScope s_law) .none kV36 dc36 pm36 an36 cd36 ct36), sl36⟩)
    (c36 : PySem.W.codeIn K cd36 "law" = true)
    (k36 : PySem.W.keepIn K (.ref f36) = true)
    (pgSealer : PySem.W.plainGet K C_Sealer Str.empty = true)
    (hdSealer : PySem.W.hasDictIn K C_Sealer = true)
    (poSealer : PySem.W.plainOver K C_Sealer = true)
    (saSealer : PySem.W.findIn K (.ref C_Sealer) "__setattr__" = some (some (.builtin "object.__setattr__")))
    (mkSealer : PySem.W.makesIn K C_Sealer = true)
    (kcSealer : PySem.W.keepIn K (.ref C_Sealer) = true)
    (nSealer_marks : PySem.W.findIn K (.ref C_Sealer) "_marks" = some none)
    (nSealer_texts : PySem.W.findIn K (.ref C_Sealer) "_texts" = some none)
    (pgShape : PySem.W.plainGet K C_Shape Str.empty = true)
    (hdShape : PySem.W.hasDictIn K C_Shape = true)
    (poShape : PySem.W.plainOver K C_Shape = true)
    (saShape : PySem.W.findIn K (.ref C_Shape) "__setattr__" = some (some (.builtin "object.__setattr__")))
    (mkShape : PySem.W.makesIn K C_Shape = true)
    (kcShape : PySem.W.keepIn K (.ref C_Shape) = true)
    (nShapefanout : PySem.W.findIn K (.ref C_Shape) "fanout" = some none)
    (nShapedepth : PySem.W.findIn K (.ref C_Shape) "depth" = some none)
    (nShapewords : PySem.W.findIn K (.ref C_Shape) "words" = some none)
    (nShapeblocks : PySem.W.findIn K (.ref C_Shape) "blocks" = some none)
    (nShapesnapshots : PySem.W.findIn K (.ref C_Shape) "snapshots" = some none)
    (pgTalk : PySem.W.plainGet K C_Talk Str.empty = true)
    (hdTalk : PySem.W.hasDictIn K C_Talk = true)
    (poTalk : PySem.W.plainOver K C_Talk = true)
    (saTalk : PySem.W.findIn K (.ref C_Talk) "__setattr__" = some (some (.builtin "object.__setattr__")))
    (mkTalk : PySem.W.makesIn K C_Talk = true)
    (kcTalk : PySem.W.keepIn K (.ref C_Talk) = true)
    (nTalkanswers : PySem.W.findIn K (.ref C_Talk) "answers" = some none)
    (nTalk_request : PySem.W.findIn K (.ref C_Talk) "_request" = some none)
    (pgCellTalk : PySem.W.plainGet K C_CellTalk Str.empty = true)
    (hdCellTalk : PySem.W.hasDictIn K C_CellTalk = true)
    (poCellTalk : PySem.W.plainOver K C_CellTalk = true)
    (saCellTalk : PySem.W.findIn K (.ref C_CellTalk) "__setattr__" = some (some (.builtin "object.__setattr__")))
    (pgReadTalk : PySem.W.plainGet K C_ReadTalk Str.empty = true)
    (hdReadTalk : PySem.W.hasDictIn K C_ReadTalk = true)
    (poReadTalk : PySem.W.plainOver K C_ReadTalk = true)
    (saReadTalk : PySem.W.findIn K (.ref C_ReadTalk) "__setattr__" = some (some (.builtin "object.__setattr__")))
    (nReadTalkanswers : PySem.W.findIn K (.ref C_ReadTalk) "answers" = some none)
    (nReadTalk_request : PySem.W.findIn K (.ref C_ReadTalk) "_request" = some none)
    (nReadTalk_sealer : PySem.W.findIn K (.ref C_ReadTalk) "_sealer" = some none)
    (nReadTalk_entry : PySem.W.findIn K (.ref C_ReadTalk) "_entry" = some none)
    (nReadTalkcells : PySem.W.findIn K (.ref C_ReadTalk) "cells" = some none)
    (nReadTalk_way : PySem.W.findIn K (.ref C_ReadTalk) "_way" = some none)
    (am_ReadTalk_answer : PySem.W.findIn K (.ref C_ReadTalk) "answer" = some (some (.ref f21)))
    (am_ReadTalk_following : PySem.W.findIn K (.ref C_ReadTalk) "following" = some (some (.ref f23)))
    (am_ReadTalk_has_ended : PySem.W.findIn K (.ref C_ReadTalk) "has_ended" = some (some (.ref f20)))
    (am_ReadTalk_reading : PySem.W.findIn K (.ref C_ReadTalk) "reading" = some (some (.ref f25)))
    (am_ReadTalk_request : PySem.W.findIn K (.ref C_ReadTalk) "request" = some (some (.ref f19)))
    (pgScanTalk : PySem.W.plainGet K C_ScanTalk Str.empty = true)
    (hdScanTalk : PySem.W.hasDictIn K C_ScanTalk = true)
    (poScanTalk : PySem.W.plainOver K C_ScanTalk = true)
    (saScanTalk : PySem.W.findIn K (.ref C_ScanTalk) "__setattr__" = some (some (.builtin "object.__setattr__")))
    (nScanTalkanswers : PySem.W.findIn K (.ref C_ScanTalk) "answers" = some none)
    (nScanTalk_request : PySem.W.findIn K (.ref C_ScanTalk) "_request" = some none)
    (nScanTalk_sealer : PySem.W.findIn K (.ref C_ScanTalk) "_sealer" = some none)
    (nScanTalk_entry : PySem.W.findIn K (.ref C_ScanTalk) "_entry" = some none)
    (nScanTalk_depth : PySem.W.findIn K (.ref C_ScanTalk) "_depth" = some none)
    (nScanTalk_levels : PySem.W.findIn K (.ref C_ScanTalk) "_levels" = some none)
    (nScanTalk_entries : PySem.W.findIn K (.ref C_ScanTalk) "_entries" = some none)
    (am_ScanTalk_answer : PySem.W.findIn K (.ref C_ScanTalk) "answer" = some (some (.ref f21)))
    (am_ScanTalk_following : PySem.W.findIn K (.ref C_ScanTalk) "following" = some (some (.ref f23)))
    (am_ScanTalk_has_ended : PySem.W.findIn K (.ref C_ScanTalk) "has_ended" = some (some (.ref f20)))
    (am_ScanTalk_reading : PySem.W.findIn K (.ref C_ScanTalk) "reading" = some (some (.ref f25)))
    (am_ScanTalk_request : PySem.W.findIn K (.ref C_ScanTalk) "request" = some (some (.ref f19)))
    (gMOST_DEPTH : PySem.W.nsIn K mainGlobals "MOST_DEPTH" = some (some (.int 6 t_MOST_DEPTH)))
    (gMOST_LEAVES : PySem.W.nsIn K mainGlobals "MOST_LEAVES" = some (some (.int 64 t_MOST_LEAVES)))
    (gMOST_BLOCKS : PySem.W.nsIn K mainGlobals "MOST_BLOCKS" = some (some (.int 1000 t_MOST_BLOCKS)))
    (zrange : PySem.W.nsIn K mainGlobals "range" = some none)
    (zlen : PySem.W.nsIn K mainGlobals "len" = some none)
    (zabs : PySem.W.nsIn K mainGlobals "abs" = some none)
    (zint : PySem.W.nsIn K mainGlobals "int" = some none)
    (zsum : PySem.W.nsIn K mainGlobals "sum" = some none)
    (zmin : PySem.W.nsIn K mainGlobals "min" = some none)
    (zmax : PySem.W.nsIn K mainGlobals "max" = some none)
    (zisinstance : PySem.W.nsIn K mainGlobals "isinstance" = some none)
    (ztuple : PySem.W.nsIn K mainGlobals "tuple" = some none)
    (zlist : PySem.W.nsIn K mainGlobals "list" = some none)
    (zzip : PySem.W.nsIn K mainGlobals "zip" = some none)
    (zbool : PySem.W.nsIn K mainGlobals "bool" = some none)
    (zsuper : PySem.W.nsIn K mainGlobals "super" = some none)
    (zsorted : PySem.W.nsIn K mainGlobals "sorted" = some none)
    (th_sup : PySem.W.nsIn K PySem.cStatics "thirdparty.any" = some none)
    (fi_CellTalk___init__ : PySem.W.findIn K (.ref C_CellTalk) "__init__" = some (some (.ref f_CellTalk___init__)))
    (if_CellTalk___init__ : PySem.W.isFn K (.ref f_CellTalk___init__) = true)
    (l_CellTalk___init__ : K.lookup f_CellTalk___init__ = some ⟨oc_CellTalk___init__, od_CellTalk___init__, .func (PySem.W.ksFn "__init__" "CellTalk.__init__" (defArgs s_CellTalk___init__) (defBody s_CellTalk___init__) (defScope s_CellTalk___init__) .none kV_CellTalk___init__ dc_CellTalk___init__ pm_CellTalk___init__ an_CellTalk___init__ (.ref cda_CellTalk___init__) ct_CellTalk___init__ cc_CellTalk___init__), sl_CellTalk___init__⟩)
    (c_CellTalk___init__ : PySem.W.codeIn K (.ref cda_CellTalk___init__) "CellTalk.__init__" = true)
    (lc_CellTalk___init__ : K.lookup cc_CellTalk___init__ = some ⟨cl_CellTalk___init__, cld_CellTalk___init__, .cell (some (.ref C_CellTalk)), csl_CellTalk___init__⟩)
    (ld_CellTalk___init__ : K.lookup cda_CellTalk___init__ = some ⟨ccl_CellTalk___init__, cdd_CellTalk___init__, .fields vs_CellTalk___init__, ccs_CellTalk___init__⟩)
    (v_CellTalk___init__ : vs_CellTalk___init__[2]? = some (.str file_CellTalk___init__ tf_CellTalk___init__))
    (kf_CellTalk___init__ : PySem.W.keepIn K (.ref f_CellTalk___init__) = true)
    (mkk_CellTalk___init__ : PySem.W.makesIn K C_CellTalk = true)
    (kcc_CellTalk___init__ : PySem.W.keepIn K (.ref C_CellTalk) = true)
    (fi_ReadTalk___init__ : PySem.W.findIn K (.ref C_ReadTalk) "__init__" = some (some (.ref f_ReadTalk___init__)))
    (if_ReadTalk___init__ : PySem.W.isFn K (.ref f_ReadTalk___init__) = true)
    (l_ReadTalk___init__ : K.lookup f_ReadTalk___init__ = some ⟨oc_ReadTalk___init__, od_ReadTalk___init__, .func (PySem.W.ksFn "__init__" "ReadTalk.__init__" (defArgs s_ReadTalk___init__) (defBody s_ReadTalk___init__) (defScope s_ReadTalk___init__) .none kV_ReadTalk___init__ dc_ReadTalk___init__ pm_ReadTalk___init__ an_ReadTalk___init__ (.ref cda_ReadTalk___init__) ct_ReadTalk___init__ cc_ReadTalk___init__), sl_ReadTalk___init__⟩)
    (c_ReadTalk___init__ : PySem.W.codeIn K (.ref cda_ReadTalk___init__) "ReadTalk.__init__" = true)
    (lc_ReadTalk___init__ : K.lookup cc_ReadTalk___init__ = some ⟨cl_ReadTalk___init__, cld_ReadTalk___init__, .cell (some (.ref C_ReadTalk)), csl_ReadTalk___init__⟩)
    (ld_ReadTalk___init__ : K.lookup cda_ReadTalk___init__ = some ⟨ccl_ReadTalk___init__, cdd_ReadTalk___init__, .fields vs_ReadTalk___init__, ccs_ReadTalk___init__⟩)
    (v_ReadTalk___init__ : vs_ReadTalk___init__[2]? = some (.str file_ReadTalk___init__ tf_ReadTalk___init__))
    (kf_ReadTalk___init__ : PySem.W.keepIn K (.ref f_ReadTalk___init__) = true)
    (mkk_ReadTalk___init__ : PySem.W.makesIn K C_ReadTalk = true)
    (kcc_ReadTalk___init__ : PySem.W.keepIn K (.ref C_ReadTalk) = true)
    (fi_ScanTalk___init__ : PySem.W.findIn K (.ref C_ScanTalk) "__init__" = some (some (.ref f_ScanTalk___init__)))
    (if_ScanTalk___init__ : PySem.W.isFn K (.ref f_ScanTalk___init__) = true)
    (l_ScanTalk___init__ : K.lookup f_ScanTalk___init__ = some ⟨oc_ScanTalk___init__, od_ScanTalk___init__, .func (PySem.W.ksFn "__init__" "ScanTalk.__init__" (defArgs s_ScanTalk___init__) (defBody s_ScanTalk___init__) (defScope s_ScanTalk___init__) .none kV_ScanTalk___init__ dc_ScanTalk___init__ pm_ScanTalk___init__ an_ScanTalk___init__ (.ref cda_ScanTalk___init__) ct_ScanTalk___init__ cc_ScanTalk___init__), sl_ScanTalk___init__⟩)
    (c_ScanTalk___init__ : PySem.W.codeIn K (.ref cda_ScanTalk___init__) "ScanTalk.__init__" = true)
    (lc_ScanTalk___init__ : K.lookup cc_ScanTalk___init__ = some ⟨cl_ScanTalk___init__, cld_ScanTalk___init__, .cell (some (.ref C_ScanTalk)), csl_ScanTalk___init__⟩)
    (ld_ScanTalk___init__ : K.lookup cda_ScanTalk___init__ = some ⟨ccl_ScanTalk___init__, cdd_ScanTalk___init__, .fields vs_ScanTalk___init__, ccs_ScanTalk___init__⟩)
    (v_ScanTalk___init__ : vs_ScanTalk___init__[2]? = some (.str file_ScanTalk___init__ tf_ScanTalk___init__))
    (kf_ScanTalk___init__ : PySem.W.keepIn K (.ref f_ScanTalk___init__) = true)
    (mkk_ScanTalk___init__ : PySem.W.makesIn K C_ScanTalk = true)
    (kcc_ScanTalk___init__ : PySem.W.keepIn K (.ref C_ScanTalk) = true)
    (hf_CellTalk___init__ : ((l.prog.main.file : Str) == file_CellTalk___init__) = true)
    (hf_ReadTalk___init__ : ((l.prog.main.file : Str) == file_ReadTalk___init__) = true)
    (hf_ScanTalk___init__ : ((l.prog.main.file : Str) == file_ScanTalk___init__) = true)
    (ht_sup : (l.prog.main.scope.names.lookup ("super" : Str)).isSome = false)
    (ty_CellTalk___init__ : PySem.W.typeIn K (.ref f18) = some (.type "function"))
    (fn_CellTalk___init__ : PySem.W.fnIn K f18 = true)
    (mro_CellTalk___init___ReadTalk : PySem.W.mroIn K C_ReadTalk (.ref C_CellTalk) = some true)
    (su_CellTalk___init___ReadTalk : PySem.W.ks_superIn K C_ReadTalk C_CellTalk "__init__" = some (some (.ref f18)))
    (mro_CellTalk___init___ScanTalk : PySem.W.mroIn K C_ScanTalk (.ref C_CellTalk) = some true)
    (su_CellTalk___init___ScanTalk : PySem.W.ks_superIn K C_ScanTalk C_CellTalk "__init__" = some (some (.ref f18)))
    (ty_ReadTalk___init__ : PySem.W.typeIn K (.ref f_CellTalk___init__) = some (.type "function"))
    (fn_ReadTalk___init__ : PySem.W.fnIn K f_CellTalk___init__ = true)
    (mro_ReadTalk___init___ReadTalk : PySem.W.mroIn K C_ReadTalk (.ref C_ReadTalk) = some true)
    (su_ReadTalk___init___ReadTalk : PySem.W.ks_superIn K C_ReadTalk C_ReadTalk "__init__" = some (some (.ref f_CellTalk___init__)))
    (ty_ScanTalk___init__ : PySem.W.typeIn K (.ref f_CellTalk___init__) = some (.type "function"))
    (fn_ScanTalk___init__ : PySem.W.fnIn K f_CellTalk___init__ = true)
    (mro_ScanTalk___init___ScanTalk : PySem.W.mroIn K C_ScanTalk (.ref C_ScanTalk) = some true)
    (su_ScanTalk___init___ScanTalk : PySem.W.ks_superIn K C_ScanTalk C_ScanTalk "__init__" = some (some (.ref f_CellTalk___init__))) :
    ∃ fd : FuncData, (∀ (s : Shared) (v : Value), BindsTo s fd ⟨[v], []⟩ [("script", v)]) ∧ ∀ base : Heap, K.In base → base.Ns mainGlobals mg → FnOk l.prog w K mg base CX0 12 fa fd ["script"] (spLaw K) := by
  have e := hfa.symm.trans (PySem.W.mg_of X G a36)
  cases e
  let T : Txt K mg := {
    r_leaf := ⟨f0, PySem.W.fnOf "leaf" "leaf" (defArgs s_leaf) (defBody s_leaf) (defScope s_leaf) .none kV0 dc0 pm0 an0 cd0 ct0, fun_mk (st := s_leaf) l0 c0 k0, ((fun_mk (st := s_leaf) l0 c0 k0).binds (ps := p_leaf) fun _ _ _ _ _ _ us hl => match us, hl with | [_], _ => rfl)⟩,
    mg_leaf := PySem.W.mg_of X G a0,
    r_node := ⟨f1, PySem.W.fnOf "node" "node" (defArgs s_node) (defBody s_node) (defScope s_node) .none kV1 dc1 pm1 an1 cd1 ct1, fun_mk (st := s_node) l1 c1 k1, ((fun_mk (st := s_node) l1 c1 k1).binds (ps := p_node) fun _ _ _ _ _ _ us hl => match us, hl with | [_], _ => rfl)⟩,
    mg_node := PySem.W.mg_of X G a1,
    r_parts := ⟨f2, PySem.W.fnOf "parts" "parts" (defArgs s_parts) (defBody s_parts) (defScope s_parts) .none kV2 dc2 pm2 an2 cd2 ct2, fun_mk (st := s_parts) l2 c2 k2, ((fun_mk (st := s_parts) l2 c2 k2).binds (ps := p_parts) fun _ _ _ _ _ _ us hl => match us, hl with | [_], _ => rfl)⟩,
    mg_parts := PySem.W.mg_of X G a2,
    r_blank_volume := ⟨f3, PySem.W.fnOf "blank_volume" "blank_volume" (defArgs s_blank_volume) (defBody s_blank_volume) (defScope s_blank_volume) .none kV3 dc3 pm3 an3 cd3 ct3, fun_mk (st := s_blank_volume) l3 c3 k3, ((fun_mk (st := s_blank_volume) l3 c3 k3).binds (ps := p_blank_volume) fun _ _ _ _ _ _ us hl => match us, hl with | [_, _], _ => rfl)⟩,
    mg_blank_volume := PySem.W.mg_of X G a3,
    r_spelled := ⟨f4, PySem.W.fnOf "spelled" "spelled" (defArgs s_spelled) (defBody s_spelled) (defScope s_spelled) .none kV4 dc4 pm4 an4 cd4 ct4, fun_mk (st := s_spelled) l4 c4 k4, ((fun_mk (st := s_spelled) l4 c4 k4).binds (ps := p_spelled) fun _ _ _ _ _ _ us hl => match us, hl with | [_], _ => rfl)⟩,
    mg_spelled := PySem.W.mg_of X G a4,
    r_is_same := ⟨f5, PySem.W.fnOf "is_same" "is_same" (defArgs s_is_same) (defBody s_is_same) (defScope s_is_same) .none kV5 dc5 pm5 an5 cd5 ct5, fun_mk (st := s_is_same) l5 c5 k5, ((fun_mk (st := s_is_same) l5 c5 k5).binds (ps := p_is_same) fun _ _ _ _ _ _ us hl => match us, hl with | [_, _], _ => rfl)⟩,
    mg_is_same := PySem.W.mg_of X G a5,
    r_Sealer___init__ := ⟨f6, PySem.W.fnOf "__init__" "Sealer.__init__" (defArgs s_Sealer___init__) (defBody s_Sealer___init__) (defScope s_Sealer___init__) .none kV6 dc6 pm6 an6 cd6 ct6, fun_mk (st := s_Sealer___init__) l6 c6 k6, ((fun_mk (st := s_Sealer___init__) l6 c6 k6).binds (ps := p_Sealer___init__) fun _ _ _ _ _ _ us hl => match us, hl with | [_], _ => rfl)⟩,
    r_Sealer_mark := ⟨f7, PySem.W.fnOf "mark" "Sealer.mark" (defArgs s_Sealer_mark) (defBody s_Sealer_mark) (defScope s_Sealer_mark) .none kV7 dc7 pm7 an7 cd7 ct7, fun_mk (st := s_Sealer_mark) l7 c7 k7, ((fun_mk (st := s_Sealer_mark) l7 c7 k7).binds (ps := p_Sealer_mark) fun _ _ _ _ _ _ us hl => match us, hl with | [_, _], _ => rfl)⟩,
    r_Sealer_knows := ⟨f8, PySem.W.fnOf "knows" "Sealer.knows" (defArgs s_Sealer_knows) (defBody s_Sealer_knows) (defScope s_Sealer_knows) .none kV8 dc8 pm8 an8 cd8 ct8, fun_mk (st := s_Sealer_knows) l8 c8 k8, ((fun_mk (st := s_Sealer_knows) l8 c8 k8).binds (ps := p_Sealer_knows) fun _ _ _ _ _ _ us hl => match us, hl with | [_, _, _], _ => rfl)⟩,
    r_leaves_below := ⟨f9, PySem.W.fnOf "leaves_below" "leaves_below" (defArgs s_leaves_below) (defBody s_leaves_below) (defScope s_leaves_below) .none kV9 dc9 pm9 an9 cd9 ct9, fun_mk (st := s_leaves_below) l9 c9 k9, ((fun_mk (st := s_leaves_below) l9 c9 k9).binds (ps := p_leaves_below) fun _ _ _ _ _ _ us hl => match us, hl with | [_, _], _ => rfl)⟩,
    mg_leaves_below := PySem.W.mg_of X G a9,
    r_is_depth := ⟨f10, PySem.W.fnOf "is_depth" "is_depth" (defArgs s_is_depth) (defBody s_is_depth) (defScope s_is_depth) .none kV10 dc10 pm10 an10 cd10 ct10, fun_mk (st := s_is_depth) l10 c10 k10, ((fun_mk (st := s_is_depth) l10 c10 k10).binds (ps := p_is_depth) fun _ _ _ _ _ _ us hl => match us, hl with | [_, _], _ => rfl)⟩,
    mg_is_depth := PySem.W.mg_of X G a10,
    r_out_of_range := ⟨f11, PySem.W.fnOf "out_of_range" "out_of_range" (defArgs s_out_of_range) (defBody s_out_of_range) (defScope s_out_of_range) .none kV11 dc11 pm11 an11 cd11 ct11, fun_mk (st := s_out_of_range) l11 c11 k11, ((fun_mk (st := s_out_of_range) l11 c11 k11).binds (ps := p_out_of_range) fun _ _ _ _ _ _ us hl => match us, hl with | [_], _ => rfl)⟩,
    mg_out_of_range := PySem.W.mg_of X G a11,
    f_Shape___init__ := f12, d_Shape___init__ := PySem.W.fnOf "__init__" "Shape.__init__" (defArgs s_Shape___init__) (defBody s_Shape___init__) (defScope s_Shape___init__) .none (.ref kD12) dc12 pm12 an12 cd12 ct12, F_Shape___init__ := ⟨⟨_, _, _, _, _, _, _, _, _, _, rfl, l12, c12, .inl ⟨rfl, rfl⟩, .inr ⟨_, rfl, fun q hq => by rw [List.mem_singleton.mp hq]; exact ⟨_, q12, ⟨_, rfl⟩⟩⟩⟩, k12⟩,
    kb_Shape := kbd_Shape ⟨⟨_, _, _, _, _, _, _, _, _, _, rfl, l12, c12, .inl ⟨rfl, rfl⟩, .inr ⟨_, rfl, fun q hq => by rw [List.mem_singleton.mp hq]; exact ⟨_, q12, ⟨_, rfl⟩⟩⟩⟩, k12⟩,
    r_Shape_leaves := ⟨f13, PySem.W.fnOf "leaves" "Shape.leaves" (defArgs s_Shape_leaves) (defBody s_Shape_leaves) (defScope s_Shape_leaves) .none kV13 dc13 pm13 an13 cd13 ct13, fun_mk (st := s_Shape_leaves) l13 c13 k13, ((fun_mk (st := s_Shape_leaves) l13 c13 k13).binds (ps := p_Shape_leaves) fun _ _ _ _ _ _ us hl => match us, hl with | [_], _ => rfl)⟩,
    r_Shape_way := ⟨f14, PySem.W.fnOf "way" "Shape.way" (defArgs s_Shape_way) (defBody s_Shape_way) (defScope s_Shape_way) .none kV14 dc14 pm14 an14 cd14 ct14, fun_mk (st := s_Shape_way) l14 c14 k14, ((fun_mk (st := s_Shape_way) l14 c14 k14).binds (ps := p_Shape_way) fun _ _ _ _ _ _ us hl => match us, hl with | [_, _], _ => rfl)⟩,
    r_Shape_cells := ⟨f15, PySem.W.fnOf "cells" "Shape.cells" (defArgs s_Shape_cells) (defBody s_Shape_cells) (defScope s_Shape_cells) .none kV15 dc15 pm15 an15 cd15 ct15, fun_mk (st := s_Shape_cells) l15 c15 k15, ((fun_mk (st := s_Shape_cells) l15 c15 k15).binds (ps := p_Shape_cells) fun _ _ _ _ _ _ us hl => match us, hl with | [_], _ => rfl)⟩,
    r_Shape_ample := ⟨f16, PySem.W.fnOf "ample" "Shape.ample" (defArgs s_Shape_ample) (defBody s_Shape_ample) (defScope s_Shape_ample) .none kV16 dc16 pm16 an16 cd16 ct16, fun_mk (st := s_Shape_ample) l16 c16 k16, ((fun_mk (st := s_Shape_ample) l16 c16 k16).binds (ps := p_Shape_ample) fun _ _ _ _ _ _ us hl => match us, hl with | [_], _ => rfl)⟩,
    r_apart := ⟨f17, PySem.W.fnOf "apart" "apart" (defArgs s_apart) (defBody s_apart) (defScope s_apart) .none kV17 dc17 pm17 an17 cd17 ct17, fun_mk (st := s_apart) l17 c17 k17, ((fun_mk (st := s_apart) l17 c17 k17).binds (ps := p_apart) fun _ _ _ _ _ _ us hl => match us, hl with | [_], _ => rfl)⟩,
    mg_apart := PySem.W.mg_of X G a17,
    r_Talk___init__ := ⟨f18, PySem.W.fnOf "__init__" "Talk.__init__" (defArgs s_Talk___init__) (defBody s_Talk___init__) (defScope s_Talk___init__) .none kV18 dc18 pm18 an18 cd18 ct18, fun_mk (st := s_Talk___init__) l18 c18 k18, ((fun_mk (st := s_Talk___init__) l18 c18 k18).binds (ps := p_Talk___init__) fun _ _ _ _ _ _ us hl => match us, hl with | [_, _], _ => rfl)⟩,
    r_Talk_request := ⟨f19, PySem.W.fnOf "request" "Talk.request" (defArgs s_Talk_request) (defBody s_Talk_request) (defScope s_Talk_request) .none kV19 dc19 pm19 an19 cd19 ct19, fun_mk (st := s_Talk_request) l19 c19 k19, ((fun_mk (st := s_Talk_request) l19 c19 k19).binds (ps := p_Talk_request) fun _ _ _ _ _ _ us hl => match us, hl with | [_], _ => rfl)⟩,
    r_Talk_has_ended := ⟨f20, PySem.W.fnOf "has_ended" "Talk.has_ended" (defArgs s_Talk_has_ended) (defBody s_Talk_has_ended) (defScope s_Talk_has_ended) .none kV20 dc20 pm20 an20 cd20 ct20, fun_mk (st := s_Talk_has_ended) l20 c20 k20, ((fun_mk (st := s_Talk_has_ended) l20 c20 k20).binds (ps := p_Talk_has_ended) fun _ _ _ _ _ _ us hl => match us, hl with | [_], _ => rfl)⟩,
    r_Talk_answer := ⟨f21, PySem.W.fnOf "answer" "Talk.answer" (defArgs s_Talk_answer) (defBody s_Talk_answer) (defScope s_Talk_answer) .none kV21 dc21 pm21 an21 cd21 ct21, fun_mk (st := s_Talk_answer) l21 c21 k21, ((fun_mk (st := s_Talk_answer) l21 c21 k21).binds (ps := p_Talk_answer) fun _ _ _ _ _ _ us hl => match us, hl with | [_, _], _ => rfl)⟩,
    r_Talk_following := ⟨f22, PySem.W.fnOf "following" "Talk.following" (defArgs s_Talk_following) (defBody s_Talk_following) (defScope s_Talk_following) .none kV22 dc22 pm22 an22 cd22 ct22, fun_mk (st := s_Talk_following) l22 c22 k22, ((fun_mk (st := s_Talk_following) l22 c22 k22).binds (ps := p_Talk_following) fun _ _ _ _ _ _ us hl => match us, hl with | [_, _], _ => rfl)⟩,
    r_CellTalk_following := ⟨f23, PySem.W.fnOf "following" "CellTalk.following" (defArgs s_CellTalk_following) (defBody s_CellTalk_following) (defScope s_CellTalk_following) .none kV23 dc23 pm23 an23 cd23 ct23, fun_mk (st := s_CellTalk_following) l23 c23 k23, ((fun_mk (st := s_CellTalk_following) l23 c23 k23).binds (ps := p_CellTalk_following) fun _ _ _ _ _ _ us hl => match us, hl with | [_, _], _ => rfl)⟩,
    r_CellTalk_accepted := ⟨f24, PySem.W.fnOf "accepted" "CellTalk.accepted" (defArgs s_CellTalk_accepted) (defBody s_CellTalk_accepted) (defScope s_CellTalk_accepted) .none kV24 dc24 pm24 an24 cd24 ct24, fun_mk (st := s_CellTalk_accepted) l24 c24 k24, ((fun_mk (st := s_CellTalk_accepted) l24 c24 k24).binds (ps := p_CellTalk_accepted) fun _ _ _ _ _ _ us hl => match us, hl with | [_, _], _ => rfl)⟩,
    r_CellTalk_reading := ⟨f25, PySem.W.fnOf "reading" "CellTalk.reading" (defArgs s_CellTalk_reading) (defBody s_CellTalk_reading) (defScope s_CellTalk_reading) .none kV25 dc25 pm25 an25 cd25 ct25, fun_mk (st := s_CellTalk_reading) l25 c25 k25, ((fun_mk (st := s_CellTalk_reading) l25 c25 k25).binds (ps := p_CellTalk_reading) fun _ _ _ _ _ _ us hl => match us, hl with | [_, _], _ => rfl)⟩,
    r_ReadTalk_accepted := ⟨f26, PySem.W.fnOf "accepted" "ReadTalk.accepted" (defArgs s_ReadTalk_accepted) (defBody s_ReadTalk_accepted) (defScope s_ReadTalk_accepted) .none kV26 dc26 pm26 an26 cd26 ct26, fun_mk (st := s_ReadTalk_accepted) l26 c26 k26, ((fun_mk (st := s_ReadTalk_accepted) l26 c26 k26).binds (ps := p_ReadTalk_accepted) fun _ _ _ _ _ _ us hl => match us, hl with | [_, _], _ => rfl)⟩,
    r_ScanTalk_note := ⟨f27, PySem.W.fnOf "note" "ScanTalk.note" (defArgs s_ScanTalk_note) (defBody s_ScanTalk_note) (defScope s_ScanTalk_note) .none kV27 dc27 pm27 an27 cd27 ct27, fun_mk (st := s_ScanTalk_note) l27 c27 k27, ((fun_mk (st := s_ScanTalk_note) l27 c27 k27).binds (ps := p_ScanTalk_note) fun _ _ _ _ _ _ us hl => match us, hl with | [_, _, _], _ => rfl)⟩,
    r_ScanTalk_accepted := ⟨f28, PySem.W.fnOf "accepted" "ScanTalk.accepted" (defArgs s_ScanTalk_accepted) (defBody s_ScanTalk_accepted) (defScope s_ScanTalk_accepted) .none kV28 dc28 pm28 an28 cd28 ct28, fun_mk (st := s_ScanTalk_accepted) l28 c28 k28, ((fun_mk (st := s_ScanTalk_accepted) l28 c28 k28).binds (ps := p_ScanTalk_accepted) fun _ _ _ _ _ _ us hl => match us, hl with | [_, _], _ => rfl)⟩,
    r_mount := ⟨f29, PySem.W.fnOf "mount" "mount" (defArgs s_mount) (defBody s_mount) (defScope s_mount) .none kV29 dc29 pm29 an29 cd29 ct29, fun_mk (st := s_mount) l29 c29 k29, ((fun_mk (st := s_mount) l29 c29 k29).binds (ps := p_mount) fun _ _ _ _ _ _ us hl => match us, hl with | [_, _, _], _ => rfl)⟩,
    mg_mount := PySem.W.mg_of X G a29,
    r__law_state := ⟨f30, PySem.W.fnOf "_law_state" "_law_state" (defArgs s__law_state) (defBody s__law_state) (defScope s__law_state) .none kV30 dc30 pm30 an30 cd30 ct30, fun_mk (st := s__law_state) l30 c30 k30, ((fun_mk (st := s__law_state) l30 c30 k30).binds (ps := p__law_state) fun _ _ _ _ _ _ us hl => match us, hl with | [_], _ => rfl)⟩,
    mg__law_state := PySem.W.mg_of X G a30,
    r__law_draw := ⟨f31, PySem.W.fnOf "_law_draw" "_law_draw" (defArgs s__law_draw) (defBody s__law_draw) (defScope s__law_draw) .none kV31 dc31 pm31 an31 cd31 ct31, fun_mk (st := s__law_draw) l31 c31 k31, ((fun_mk (st := s__law_draw) l31 c31 k31).binds (ps := p__law_draw) fun _ _ _ _ _ _ us hl => match us, hl with | [_, _], _ => rfl)⟩,
    mg__law_draw := PySem.W.mg_of X G a31,
    r__law_shape := ⟨f32, PySem.W.fnOf "_law_shape" "_law_shape" (defArgs s__law_shape) (defBody s__law_shape) (defScope s__law_shape) .none kV32 dc32 pm32 an32 cd32 ct32, fun_mk (st := s__law_shape) l32 c32 k32, ((fun_mk (st := s__law_shape) l32 c32 k32).binds (ps := p__law_shape) fun _ _ _ _ _ _ us hl => match us, hl with | [_, _], _ => rfl)⟩,
    mg__law_shape := PySem.W.mg_of X G a32,
    r__law_leaves := ⟨f33, PySem.W.fnOf "_law_leaves" "_law_leaves" (defArgs s__law_leaves) (defBody s__law_leaves) (defScope s__law_leaves) .none kV33 dc33 pm33 an33 cd33 ct33, fun_mk (st := s__law_leaves) l33 c33 k33, ((fun_mk (st := s__law_leaves) l33 c33 k33).binds (ps := p__law_leaves) fun _ _ _ _ _ _ us hl => match us, hl with | [_], _ => rfl)⟩,
    mg__law_leaves := PySem.W.mg_of X G a33,
    r__law_words := ⟨f34, PySem.W.fnOf "_law_words" "_law_words" (defArgs s__law_words) (defBody s__law_words) (defScope s__law_words) .none kV34 dc34 pm34 an34 cd34 ct34, fun_mk (st := s__law_words) l34 c34 k34, ((fun_mk (st := s__law_words) l34 c34 k34).binds (ps := p__law_words) fun _ _ _ _ _ _ us hl => match us, hl with | [_, _], _ => rfl)⟩,
    mg__law_words := PySem.W.mg_of X G a34,
    r__law_drive := ⟨f35, PySem.W.fnOf "_law_drive" "_law_drive" (defArgs s__law_drive) (defBody s__law_drive) (defScope s__law_drive) .none kV35 dc35 pm35 an35 cd35 ct35, fun_mk (st := s__law_drive) l35 c35 k35, ((fun_mk (st := s__law_drive) l35 c35 k35).binds (ps := p__law_drive) fun _ _ _ _ _ _ us hl => match us, hl with | [_, _], _ => rfl)⟩,
    mg__law_drive := PySem.W.mg_of X G a35,
    r_law := ⟨fa, PySem.W.fnOf "law" "law" (defArgs s_law) (defBody s_law) (defScope s_law) .none kV36 dc36 pm36 an36 cd36 ct36, fun_mk (st := s_law) l36 c36 k36, ((fun_mk (st := s_law) l36 c36 k36).binds (ps := p_law) fun _ _ _ _ _ _ us hl => match us, hl with | [_], _ => rfl)⟩,
    mg_law := PySem.W.mg_of X G a36,
    C_Sealer := C_Sealer, mg_Sealer := PySem.W.mg_of X G aCSealer, cl_Sealer := ⟨pgSealer, hdSealer, poSealer, saSealer⟩,
    M_Sealer := ⟨mkSealer, a6, i6, kcSealer⟩,
    na_Sealer__marks := nSealer_marks,
    na_Sealer__texts := nSealer_texts,
    m_Sealer_mark := ⟨a7, i7, k7⟩,
    m_Sealer_knows := ⟨a8, i8, k8⟩,
    C_Shape := C_Shape, mg_Shape := PySem.W.mg_of X G aCShape, cl_Shape := ⟨pgShape, hdShape, poShape, saShape⟩,
    M_Shape := ⟨mkShape, a12, i12, kcShape⟩,
    na_Shape_fanout := nShapefanout,
    na_Shape_depth := nShapedepth,
    na_Shape_words := nShapewords,
    na_Shape_blocks := nShapeblocks,
    na_Shape_snapshots := nShapesnapshots,
    m_Shape_leaves := ⟨a13, i13, k13⟩,
    m_Shape_way := ⟨a14, i14, k14⟩,
    m_Shape_cells := ⟨a15, i15, k15⟩,
    m_Shape_ample := ⟨a16, i16, k16⟩,
    C_Talk := C_Talk, mg_Talk := PySem.W.mg_of X G aCTalk, cl_Talk := ⟨pgTalk, hdTalk, poTalk, saTalk⟩,
    M_Talk := ⟨mkTalk, a18, i18, kcTalk⟩,
    na_Talk_answers := nTalkanswers,
    na_Talk__request := nTalk_request,
    m_Talk_request := ⟨a19, i19, k19⟩,
    m_Talk_has_ended := ⟨a20, i20, k20⟩,
    m_Talk_answer := ⟨a21, i21, k21⟩,
    m_Talk_following := ⟨a22, i22, k22⟩,
    C_CellTalk := C_CellTalk, mg_CellTalk := PySem.W.mg_of X G aCCellTalk, cl_CellTalk := ⟨pgCellTalk, hdCellTalk, poCellTalk, saCellTalk⟩,
    m_CellTalk_following := ⟨a23, i23, k23⟩,
    m_CellTalk_accepted := ⟨a24, i24, k24⟩,
    m_CellTalk_reading := ⟨a25, i25, k25⟩,
    C_ReadTalk := C_ReadTalk, mg_ReadTalk := PySem.W.mg_of X G aCReadTalk, cl_ReadTalk := ⟨pgReadTalk, hdReadTalk, poReadTalk, saReadTalk⟩,
    na_ReadTalk_answers := nReadTalkanswers,
    na_ReadTalk__request := nReadTalk_request,
    na_ReadTalk__sealer := nReadTalk_sealer,
    na_ReadTalk__entry := nReadTalk_entry,
    na_ReadTalk_cells := nReadTalkcells,
    na_ReadTalk__way := nReadTalk_way,
    m_ReadTalk_accepted := ⟨a26, i26, k26⟩,
    m_ReadTalk_answer := ⟨am_ReadTalk_answer, i21, k21⟩,
    m_ReadTalk_following := ⟨am_ReadTalk_following, i23, k23⟩,
    m_ReadTalk_has_ended := ⟨am_ReadTalk_has_ended, i20, k20⟩,
    m_ReadTalk_reading := ⟨am_ReadTalk_reading, i25, k25⟩,
    m_ReadTalk_request := ⟨am_ReadTalk_request, i19, k19⟩,
    C_ScanTalk := C_ScanTalk, mg_ScanTalk := PySem.W.mg_of X G aCScanTalk, cl_ScanTalk := ⟨pgScanTalk, hdScanTalk, poScanTalk, saScanTalk⟩,
    na_ScanTalk_answers := nScanTalkanswers,
    na_ScanTalk__request := nScanTalk_request,
    na_ScanTalk__sealer := nScanTalk_sealer,
    na_ScanTalk__entry := nScanTalk_entry,
    na_ScanTalk__depth := nScanTalk_depth,
    na_ScanTalk__levels := nScanTalk_levels,
    na_ScanTalk__entries := nScanTalk_entries,
    m_ScanTalk_note := ⟨a27, i27, k27⟩,
    m_ScanTalk_accepted := ⟨a28, i28, k28⟩,
    m_ScanTalk_answer := ⟨am_ScanTalk_answer, i21, k21⟩,
    m_ScanTalk_following := ⟨am_ScanTalk_following, i23, k23⟩,
    m_ScanTalk_has_ended := ⟨am_ScanTalk_has_ended, i20, k20⟩,
    m_ScanTalk_reading := ⟨am_ScanTalk_reading, i25, k25⟩,
    m_ScanTalk_request := ⟨am_ScanTalk_request, i19, k19⟩,
    t_MOST_DEPTH := t_MOST_DEPTH, mg_MOST_DEPTH := PySem.W.mg_of X G gMOST_DEPTH,
    t_MOST_LEAVES := t_MOST_LEAVES, mg_MOST_LEAVES := PySem.W.mg_of X G gMOST_LEAVES,
    t_MOST_BLOCKS := t_MOST_BLOCKS, mg_MOST_BLOCKS := PySem.W.mg_of X G gMOST_BLOCKS,
    z_range := PySem.W.mg_none_of X G zrange,
    z_len := PySem.W.mg_none_of X G zlen,
    z_abs := PySem.W.mg_none_of X G zabs,
    z_int := PySem.W.mg_none_of X G zint,
    z_sum := PySem.W.mg_none_of X G zsum,
    z_min := PySem.W.mg_none_of X G zmin,
    z_max := PySem.W.mg_none_of X G zmax,
    z_isinstance := PySem.W.mg_none_of X G zisinstance,
    z_tuple := PySem.W.mg_none_of X G ztuple,
    z_list := PySem.W.mg_none_of X G zlist,
    z_zip := PySem.W.mg_none_of X G zzip,
    z_bool := PySem.W.mg_none_of X G zbool,
    z_super := PySem.W.mg_none_of X G zsuper,
    z_sorted := PySem.W.mg_none_of X G zsorted,
    f_CellTalk___init__ := f_CellTalk___init__, d_CellTalk___init__ := _, cda_CellTalk___init__ := cda_CellTalk___init__, cc_CellTalk___init__ := cc_CellTalk___init__, file_CellTalk___init__ := file_CellTalk___init__, lk_CellTalk___init__ := ⟨_, _, _, _, _, _, _, _, rfl, l_CellTalk___init__, c_CellTalk___init__⟩,
    M_CellTalk := ⟨mkk_CellTalk___init__, fi_CellTalk___init__, if_CellTalk___init__, kcc_CellTalk___init__⟩,
    f_ReadTalk___init__ := f_ReadTalk___init__, d_ReadTalk___init__ := _, cda_ReadTalk___init__ := cda_ReadTalk___init__, cc_ReadTalk___init__ := cc_ReadTalk___init__, file_ReadTalk___init__ := file_ReadTalk___init__, lk_ReadTalk___init__ := ⟨_, _, _, _, _, _, _, _, rfl, l_ReadTalk___init__, c_ReadTalk___init__⟩,
    M_ReadTalk := ⟨mkk_ReadTalk___init__, fi_ReadTalk___init__, if_ReadTalk___init__, kcc_ReadTalk___init__⟩,
    f_ScanTalk___init__ := f_ScanTalk___init__, d_ScanTalk___init__ := _, cda_ScanTalk___init__ := cda_ScanTalk___init__, cc_ScanTalk___init__ := cc_ScanTalk___init__, file_ScanTalk___init__ := file_ScanTalk___init__, lk_ScanTalk___init__ := ⟨_, _, _, _, _, _, _, _, rfl, l_ScanTalk___init__, c_ScanTalk___init__⟩,
    M_ScanTalk := ⟨mkk_ScanTalk___init__, fi_ScanTalk___init__, if_ScanTalk___init__, kcc_ScanTalk___init__⟩,
    so_CellTalk___init___ReadTalk := ⟨⟨_, _, _, lc_CellTalk___init__⟩, ⟨_, _, _, _, ld_CellTalk___init__, _, v_CellTalk___init__⟩, hdCellTalk, hdReadTalk, mro_CellTalk___init___ReadTalk, su_CellTalk___init___ReadTalk, ty_CellTalk___init__, fn_CellTalk___init__, th_sup, ⟨_, rfl, rfl⟩⟩,
    so_CellTalk___init___ScanTalk := ⟨⟨_, _, _, lc_CellTalk___init__⟩, ⟨_, _, _, _, ld_CellTalk___init__, _, v_CellTalk___init__⟩, hdCellTalk, hdScanTalk, mro_CellTalk___init___ScanTalk, su_CellTalk___init___ScanTalk, ty_CellTalk___init__, fn_CellTalk___init__, th_sup, ⟨_, rfl, rfl⟩⟩,
    so_ReadTalk___init___ReadTalk := ⟨⟨_, _, _, lc_ReadTalk___init__⟩, ⟨_, _, _, _, ld_ReadTalk___init__, _, v_ReadTalk___init__⟩, hdReadTalk, hdReadTalk, mro_ReadTalk___init___ReadTalk, su_ReadTalk___init___ReadTalk, ty_ReadTalk___init__, fn_ReadTalk___init__, th_sup, ⟨_, rfl, rfl⟩⟩,
    so_ScanTalk___init___ScanTalk := ⟨⟨_, _, _, lc_ScanTalk___init__⟩, ⟨_, _, _, _, ld_ScanTalk___init__, _, v_ScanTalk___init__⟩, hdScanTalk, hdScanTalk, mro_ScanTalk___init___ScanTalk, su_ScanTalk___init___ScanTalk, ty_ScanTalk___init__, fn_ScanTalk___init__, th_sup, ⟨_, rfl, rfl⟩⟩ }
  have TF : TxF l.prog T := ⟨⟨hf_CellTalk___init__, ht_sup⟩, ⟨hf_ReadTalk___init__, ht_sup⟩, ⟨hf_ScanTalk___init__, ht_sup⟩⟩
  exact ⟨_, fun s v => .of_eq rfl, fun base _ _ => ok_law T TF⟩
theorem walk {l : PySem.W.OpenLaw} {q : Program} {loose : List Str} {XP : (Str → Option Value) → Heap → Prop} {YP : World → Heap → Prop} {d : DefRec} {K : Params → PySem.W.Frag} (hn : l.most = some 63) (hdf : d.params.defaults = [])
    (hY : ∀ (w : World) (h : Heap), YP w h → (K w.params).In h)
    (F : ∀ (w : World) (mg : Str → Option Value) (fa : Addr) (h : Heap), (K w.params).In h → h.Ns mainGlobals mg → mg d.name = some (.ref fa) →
      ∃ fd : FuncData, (∀ (s : Shared) (u : Value), BindsTo s fd ⟨[u], []⟩ [("script", u)]) ∧ ∀ base : Heap, (K w.params).In base → base.Ns mainGlobals mg → FnOk l.prog w (K w.params) mg base CX0 12 fa fd ["script"] (spLaw (K w.params))) :
    PySem.W.WalkO q loose XP YP l.row.toRowW d [] (fun f vs => PySem.call f vs) :=
  L2.walk_of (n := 63) (k := 12) (x := "script") (CX := fun _ => CX0) (sp := fun w => spLaw (K w.params)) hn (by decide) hdf ⟨rfl, by decide, by decide⟩ hY F (fun _ _ a ns hl _ hS => ⟨a, ns, rfl, hS, hl, fun _ => rfl⟩) fun _ _ _ _ _ z => z
end Cs
open PySem PySem.W PyProof.Rows in
set_option maxRecDepth 100000 in
set_option maxHeartbeats 0 in
theorem PySem.Challenge.cw_caisson_k04_blank_volumes_holds : PySem.Challenge.rw_caisson_k04_blank_volumes.Holds := by
  w_on; o_law; k_head; (case hw => w_witness2)
  k_fill
  refine Cs.walk (l := PySem.Challenge.rw_caisson_k04_blank_volumes) rfl rfl (fun w h Y => PySem.W.kIn_of Y) ?F
  case F =>
    intro w mg fa h KX G hmg
    refine' Cs.all_mk KX G hmg ?aCSealer ?aCShape ?aCTalk ?aCCellTalk ?aCReadTalk ?aCScanTalk ?a0 ?l0 ?c0 ?k0 ?a1 ?l1 ?c1 ?k1 ?a2 ?l2 ?c2 ?k2 ?a3 ?l3 ?c3 ?k3 ?a4 ?l4 ?c4 ?k4 ?a5 ?l5 ?c5 ?k5 ?a6 ?i6 ?l6 ?c6 ?k6 ?a7 ?i7 ?l7 ?c7 ?k7 ?a8 ?i8 ?l8 ?c8 ?k8 ?a9 ?l9 ?c9 ?k9 ?a10 ?l10 ?c10 ?k10 ?a11 ?l11 ?c11 ?k11 ?a12 ?i12 ?l12 ?c12 ?k12 ?q12 ?a13 ?i13 ?l13 ?c13 ?k13 ?a14 ?i14 ?l14 ?c14 ?k14 ?a15 ?i15 ?l15 ?c15 ?k15 ?a16 ?i16 ?l16 ?c16 ?k16 ?a17 ?l17 ?c17 ?k17 ?a18 ?i18 ?l18 ?c18 ?k18 ?a19 ?i19 ?l19 ?c19 ?k19 ?a20 ?i20 ?l20 ?c20 ?k20 ?a21 ?i21 ?l21 ?c21 ?k21 ?a22 ?i22 ?l22 ?c22 ?k22 ?a23 ?i23 ?l23 ?c23 ?k23 ?a24 ?i24 ?l24 ?c24 ?k24 ?a25 ?i25 ?l25 ?c25 ?k25 ?a26 ?i26 ?l26 ?c26 ?k26 ?a27 ?i27 ?l27 ?c27 ?k27 ?a28 ?i28 ?l28 ?c28 ?k28 ?a29 ?l29 ?c29 ?k29 ?a30 ?l30 ?c30 ?k30 ?a31 ?l31 ?c31 ?k31 ?a32 ?l32 ?c32 ?k32 ?a33 ?l33 ?c33 ?k33 ?a34 ?l34 ?c34 ?k34 ?a35 ?l35 ?c35 ?k35 ?a36 ?l36 ?c36 ?k36 ?pgSealer ?hdSealer ?poSealer ?saSealer ?mkSealer ?kcSealer ?nSealer_marks ?nSealer_texts ?pgShape ?hdShape ?poShape ?saShape ?mkShape ?kcShape ?nShapefanout ?nShapedepth ?nShapewords ?nShapeblocks ?nShapesnapshots ?pgTalk ?hdTalk ?poTalk ?saTalk ?mkTalk ?kcTalk ?nTalkanswers ?nTalk_request ?pgCellTalk ?hdCellTalk ?poCellTalk ?saCellTalk ?pgReadTalk ?hdReadTalk ?poReadTalk ?saReadTalk ?nReadTalkanswers ?nReadTalk_request ?nReadTalk_sealer ?nReadTalk_entry ?nReadTalkcells ?nReadTalk_way ?am_ReadTalk_answer ?am_ReadTalk_following ?am_ReadTalk_has_ended ?am_ReadTalk_reading ?am_ReadTalk_request ?pgScanTalk ?hdScanTalk ?poScanTalk ?saScanTalk ?nScanTalkanswers ?nScanTalk_request ?nScanTalk_sealer ?nScanTalk_entry ?nScanTalk_depth ?nScanTalk_levels ?nScanTalk_entries ?am_ScanTalk_answer ?am_ScanTalk_following ?am_ScanTalk_has_ended ?am_ScanTalk_reading ?am_ScanTalk_request ?gMOST_DEPTH ?gMOST_LEAVES ?gMOST_BLOCKS ?zrange ?zlen ?zabs ?zint ?zsum ?zmin ?zmax ?zisinstance ?ztuple ?zlist ?zzip ?zbool ?zsuper ?zsorted ?th_sup ?fi_CellTalk___init__ ?if_CellTalk___init__ ?l_CellTalk___init__ ?c_CellTalk___init__ ?lc_CellTalk___init__ ?ld_CellTalk___init__ ?v_CellTalk___init__ ?kf_CellTalk___init__ ?mkk_CellTalk___init__ ?kcc_CellTalk___init__ ?fi_ReadTalk___init__ ?if_ReadTalk___init__ ?l_ReadTalk___init__ ?c_ReadTalk___init__ ?lc_ReadTalk___init__ ?ld_ReadTalk___init__ ?v_ReadTalk___init__ ?kf_ReadTalk___init__ ?mkk_ReadTalk___init__ ?kcc_ReadTalk___init__ ?fi_ScanTalk___init__ ?if_ScanTalk___init__ ?l_ScanTalk___init__ ?c_ScanTalk___init__ ?lc_ScanTalk___init__ ?ld_ScanTalk___init__ ?v_ScanTalk___init__ ?kf_ScanTalk___init__ ?mkk_ScanTalk___init__ ?kcc_ScanTalk___init__ ?hf_CellTalk___init__ ?hf_ReadTalk___init__ ?hf_ScanTalk___init__ ?ht_sup ?ty_CellTalk___init__ ?fn_CellTalk___init__ ?mro_CellTalk___init___ReadTalk ?su_CellTalk___init___ReadTalk ?mro_CellTalk___init___ScanTalk ?su_CellTalk___init___ScanTalk ?ty_ReadTalk___init__ ?fn_ReadTalk___init__ ?mro_ReadTalk___init___ReadTalk ?su_ReadTalk___init___ReadTalk ?ty_ScanTalk___init__ ?fn_ScanTalk___init__ ?mro_ScanTalk___init___ScanTalk ?su_ScanTalk___init___ScanTalk
    (case aCSealer => k_is)
    (case aCShape => k_is)
    (case aCTalk => k_is)
    (case aCCellTalk => k_is)
    (case aCReadTalk => k_is)
    (case aCScanTalk => k_is)
    (case a0 => k_is)
    (case l0 => k_is)
    (case c0 => k_is)
    (case k0 => k_is)
    (case a1 => k_is)
    (case l1 => k_is)
    (case c1 => k_is)
    (case k1 => k_is)
    (case a2 => k_is)
    (case l2 => k_is)
    (case c2 => k_is)
    (case k2 => k_is)
    (case a3 => k_is)
    (case l3 => k_is)
    (case c3 => k_is)
    (case k3 => k_is)
    (case a4 => k_is)
    (case l4 => k_is)
    (case c4 => k_is)
    (case k4 => k_is)
    (case a5 => k_is)
    (case l5 => k_is)
    (case c5 => k_is)
    (case k5 => k_is)
    (case a6 => k_is)
    (case i6 => k_is)
    (case l6 => k_is)
    (case c6 => k_is)
    (case k6 => k_is)
    (case a7 => k_is)
    (case i7 => k_is)
    (case l7 => k_is)
    (case c7 => k_is)
    (case k7 => k_is)
    (case a8 => k_is)
    (case i8 => k_is)
    (case l8 => k_is)
    (case c8 => k_is)
    (case k8 => k_is)
    (case a9 => k_is)
    (case l9 => k_is)
    (case c9 => k_is)
    (case k9 => k_is)
    (case a10 => k_is)
    (case l10 => k_is)
    (case c10 => k_is)
    (case k10 => k_is)
    (case a11 => k_is)
    (case l11 => k_is)
    (case c11 => k_is)
    (case k11 => k_is)
    (case a12 => k_is)
    (case i12 => k_is)
    (case l12 => k_is)
    (case c12 => k_is)
    (case k12 => k_is)
    (case q12 => k_is)
    (case a13 => k_is)
    (case i13 => k_is)
    (case l13 => k_is)
    (case c13 => k_is)
    (case k13 => k_is)
    (case a14 => k_is)
    (case i14 => k_is)
    (case l14 => k_is)
    (case c14 => k_is)
    (case k14 => k_is)
    (case a15 => k_is)
    (case i15 => k_is)
    (case l15 => k_is)
    (case c15 => k_is)
    (case k15 => k_is)
    (case a16 => k_is)
    (case i16 => k_is)
    (case l16 => k_is)
    (case c16 => k_is)
    (case k16 => k_is)
    (case a17 => k_is)
    (case l17 => k_is)
    (case c17 => k_is)
    (case k17 => k_is)
    (case a18 => k_is)
    (case i18 => k_is)
    (case l18 => k_is)
    (case c18 => k_is)
    (case k18 => k_is)
    (case a19 => k_is)
    (case i19 => k_is)
    (case l19 => k_is)
    (case c19 => k_is)
    (case k19 => k_is)
    (case a20 => k_is)
    (case i20 => k_is)
    (case l20 => k_is)
    (case c20 => k_is)
    (case k20 => k_is)
    (case a21 => k_is)
    (case i21 => k_is)
    (case l21 => k_is)
    (case c21 => k_is)
    (case k21 => k_is)
    (case a22 => k_is)
    (case i22 => k_is)
    (case l22 => k_is)
    (case c22 => k_is)
    (case k22 => k_is)
    (case a23 => k_is)
    (case i23 => k_is)
    (case l23 => k_is)
    (case c23 => k_is)
    (case k23 => k_is)
    (case a24 => k_is)
    (case i24 => k_is)
    (case l24 => k_is)
    (case c24 => k_is)
    (case k24 => k_is)
    (case a25 => k_is)
    (case i25 => k_is)
    (case l25 => k_is)
    (case c25 => k_is)
    (case k25 => k_is)
    (case a26 => k_is)
    (case i26 => k_is)
    (case l26 => k_is)
    (case c26 => k_is)
    (case k26 => k_is)
    (case a27 => k_is)
    (case i27 => k_is)
    (case l27 => k_is)
    (case c27 => k_is)
    (case k27 => k_is)
    (case a28 => k_is)
    (case i28 => k_is)
    (case l28 => k_is)
    (case c28 => k_is)
    (case k28 => k_is)
    (case a29 => k_is)
    (case l29 => k_is)
    (case c29 => k_is)
    (case k29 => k_is)
    (case a30 => k_is)
    (case l30 => k_is)
    (case c30 => k_is)
    (case k30 => k_is)
    (case a31 => k_is)
    (case l31 => k_is)
    (case c31 => k_is)
    (case k31 => k_is)
    (case a32 => k_is)
    (case l32 => k_is)
    (case c32 => k_is)
    (case k32 => k_is)
    (case a33 => k_is)
    (case l33 => k_is)
    (case c33 => k_is)
    (case k33 => k_is)
    (case a34 => k_is)
    (case l34 => k_is)
    (case c34 => k_is)
    (case k34 => k_is)
    (case a35 => k_is)
    (case l35 => k_is)
    (case c35 => k_is)
    (case k35 => k_is)
    (case a36 => k_is)
    (case l36 => k_is)
    (case c36 => k_is)
    (case k36 => k_is)
    (case pgSealer => k_is)
    (case hdSealer => k_is)
    (case poSealer => k_is)
    (case saSealer => k_is)
    (case mkSealer => k_is)
    (case kcSealer => k_is)
    (case nSealer_marks => k_is)
    (case nSealer_texts => k_is)
    (case pgShape => k_is)
    (case hdShape => k_is)
    (case poShape => k_is)
    (case saShape => k_is)
    (case mkShape => k_is)
    (case kcShape => k_is)
    (case nShapefanout => k_is)
    (case nShapedepth => k_is)
    (case nShapewords => k_is)
    (case nShapeblocks => k_is)
    (case nShapesnapshots => k_is)
    (case pgTalk => k_is)
    (case hdTalk => k_is)
    (case poTalk => k_is)
    (case saTalk => k_is)
    (case mkTalk => k_is)
    (case kcTalk => k_is)
    (case nTalkanswers => k_is)
    (case nTalk_request => k_is)
    (case pgCellTalk => k_is)
    (case hdCellTalk => k_is)
    (case poCellTalk => k_is)
    (case saCellTalk => k_is)
    (case pgReadTalk => k_is)
    (case hdReadTalk => k_is)
    (case poReadTalk => k_is)
    (case saReadTalk => k_is)
    (case nReadTalkanswers => k_is)
    (case nReadTalk_request => k_is)
    (case nReadTalk_sealer => k_is)
    (case nReadTalk_entry => k_is)
    (case nReadTalkcells => k_is)
    (case nReadTalk_way => k_is)
    (case am_ReadTalk_answer => k_is)
    (case am_ReadTalk_following => k_is)
    (case am_ReadTalk_has_ended => k_is)
    (case am_ReadTalk_reading => k_is)
    (case am_ReadTalk_request => k_is)
    (case pgScanTalk => k_is)
    (case hdScanTalk => k_is)
    (case poScanTalk => k_is)
    (case saScanTalk => k_is)
    (case nScanTalkanswers => k_is)
    (case nScanTalk_request => k_is)
    (case nScanTalk_sealer => k_is)
    (case nScanTalk_entry => k_is)
    (case nScanTalk_depth => k_is)
    (case nScanTalk_levels => k_is)
    (case nScanTalk_entries => k_is)
    (case am_ScanTalk_answer => k_is)
    (case am_ScanTalk_following => k_is)
    (case am_ScanTalk_has_ended => k_is)
    (case am_ScanTalk_reading => k_is)
    (case am_ScanTalk_request => k_is)
    (case gMOST_DEPTH => k_is)
    (case gMOST_LEAVES => k_is)
    (case gMOST_BLOCKS => k_is)
    (case zrange => k_is)
    (case zlen => k_is)
    (case zabs => k_is)
    (case zint => k_is)
    (case zsum => k_is)
    (case zmin => k_is)
    (case zmax => k_is)
    (case zisinstance => k_is)
    (case ztuple => k_is)
    (case zlist => k_is)
    (case zzip => k_is)
    (case zbool => k_is)
    (case zsuper => k_is)
    (case zsorted => k_is)
    (case th_sup => k_is)
    (case fi_CellTalk___init__ => k_is)
    (case if_CellTalk___init__ => k_is)
    (case l_CellTalk___init__ => k_is)
    (case c_CellTalk___init__ => k_is)
    (case lc_CellTalk___init__ => k_is)
    (case ld_CellTalk___init__ => k_is)
    (case v_CellTalk___init__ => rfl)
    (case kf_CellTalk___init__ => k_is)
    (case mkk_CellTalk___init__ => k_is)
    (case kcc_CellTalk___init__ => k_is)
    (case fi_ReadTalk___init__ => k_is)
    (case if_ReadTalk___init__ => k_is)
    (case l_ReadTalk___init__ => k_is)
    (case c_ReadTalk___init__ => k_is)
    (case lc_ReadTalk___init__ => k_is)
    (case ld_ReadTalk___init__ => k_is)
    (case v_ReadTalk___init__ => rfl)
    (case kf_ReadTalk___init__ => k_is)
    (case mkk_ReadTalk___init__ => k_is)
    (case kcc_ReadTalk___init__ => k_is)
    (case fi_ScanTalk___init__ => k_is)
    (case if_ScanTalk___init__ => k_is)
    (case l_ScanTalk___init__ => k_is)
    (case c_ScanTalk___init__ => k_is)
    (case lc_ScanTalk___init__ => k_is)
    (case ld_ScanTalk___init__ => k_is)
    (case v_ScanTalk___init__ => rfl)
    (case kf_ScanTalk___init__ => k_is)
    (case mkk_ScanTalk___init__ => k_is)
    (case kcc_ScanTalk___init__ => k_is)
    (case hf_CellTalk___init__ => first | rfl | decide +kernel)
    (case hf_ReadTalk___init__ => first | rfl | decide +kernel)
    (case hf_ScanTalk___init__ => first | rfl | decide +kernel)
    (case ht_sup => first | rfl | decide +kernel)
    (case ty_CellTalk___init__ => k_is)
    (case fn_CellTalk___init__ => k_is)
    (case mro_CellTalk___init___ReadTalk => k_is)
    (case su_CellTalk___init___ReadTalk => ks_is)
    (case mro_CellTalk___init___ScanTalk => k_is)
    (case su_CellTalk___init___ScanTalk => ks_is)
    (case ty_ReadTalk___init__ => k_is)
    (case fn_ReadTalk___init__ => k_is)
    (case mro_ReadTalk___init___ReadTalk => k_is)
    (case su_ReadTalk___init___ReadTalk => ks_is)
    (case ty_ScanTalk___init__ => k_is)
    (case fn_ScanTalk___init__ => k_is)
    (case mro_ScanTalk___init___ScanTalk => k_is)
    (case su_ScanTalk___init___ScanTalk => ks_is)

