import PyProof.Rows.All
import Wide.All
import OpenK.AllK
import Wide.FinOn
import HandS.ForMost
import HandS.Style
import HandS.RevRange
import HandS.TupSets
import HandS.MakeKwOnly
import HandS.SetBool
import HandS.TupLe
import HandS.TupAny
import HandS.IsInst
import HandS.Deep
import HandS.SetKeys
import HandS.Zip0
import PyProof.DictRoadsH
import PyProof.P3Eq
import PyProof.Rows.TupTab
import KE.KDictZip
import KE.KItemsList
import PySem.Challenge.RW_caisson_k03_the_sealer
set_option Elab.async false
set_option maxRecDepth 100000
namespace Cs
open PySem L2
theorem ints_lay : ∀ ns : List Int, PyData.canLayAll0 (ns.map PyData.int) = true
  | [] => rfl
  | n :: r => by simp [PyData.canLayAll0, PyData.canLay0, ints_lay r]
theorem ints_depth : ∀ ns : List Int, PyData.depthAll (ns.map PyData.int) ≤ 1
  | [] => by simp [PyData.depthAll]
  | n :: r => by
    have h := ints_depth r
    simp [PyData.depthAll, PyData.depth] at h ⊢
    try omega
theorem ints_eqv : ∀ a b : List Int, PyData.eqvAll (a.map PyData.int) (b.map PyData.int) = decide (a = b)
  | [], [] => by simp [PyData.eqvAll]
  | [], _ :: _ => by simp [PyData.eqvAll]
  | _ :: _, [] => by simp [PyData.eqvAll]
  | x :: a, y :: b => by
    have e : (x == y) = decide (x = y) := by by_cases h : x = y <;> simp [h]
    simp [PyData.eqvAll, PyData.eqv, ints_eqv a b, e]
theorem ints_dp {K : PySem.W.Frag} {H : Hp} : ∀ ns : List Int, DpAll K H (ns.map V.int) (ns.map PyData.int)
  | [] => .nil
  | n :: r => .cons (.int n) (ints_dp r)
theorem iteNE {b : Bool} {A B : Prop} (hb : b = true) (h : B) : if (!b) = true then A else B := by
  rw [hb]
  exact iteF h

/-! ### dicts whose keys are tuples of ints, texts and tuples of ints -/
abbrev Item := Sum Key (List Int)
section
variable {prog : Program} {w : World}
inductive ItIs (prog : Program) (w : World) (h : Heap) : Item → Value → Prop
  | key {k : Key} {v : Value} : keyIs k v = true → (∀ x, k = .inr x → PyData.strOk x = true) → ItIs prog w h (.inl k) v
  | one {ns : List Int} {a : Addr} : IsTupleKey (intKind prog w) h ns a → ItIs prog w h (.inr ns) (.ref a)
inductive ItsAre (prog : Program) (w : World) (h : Heap) : List Item → List Value → Prop
  | nil : ItsAre prog w h [] []
  | cons {k : Item} {v : Value} {ks : List Item} {vs : List Value} : ItIs prog w h k v → ItsAre prog w h ks vs → ItsAre prog w h (k :: ks) (v :: vs)
def IsTK (prog : Program) (w : World) (h : Heap) (ks : List Item) (a : Addr) : Prop := ∃ o items n, h.get? a = some o ∧ o.cls = .type "tuple" ∧ o.data = .seq items n ∧ ItsAre prog w h ks items.toList
theorem ItIs.inj {h : Heap} {x y : Item} {v : Value} (hx : ItIs prog w h x v) (hy : ItIs prog w h y v) : x = y := by
  cases hx with
  | key h1 _ =>
    cases hy with
    | key h2 _ => rw [(mixKind prog w).inj _ _ _ h1 h2]
    | one h2 =>
      have := (mixKind prog w).byValue _ _ h1
      cases this
  | one h1 =>
    cases hy with
    | key h2 _ =>
      have := (mixKind prog w).byValue _ _ h2
      cases this
    | one h2 => rw [h1.inj h2]
theorem ItsAre.inj {h : Heap} {x y : List Item} {vs : List Value} (hx : ItsAre prog w h x vs) (hy : ItsAre prog w h y vs) : x = y := by
  induction hx generalizing y with
  | nil => cases hy; rfl
  | cons h1 _ ih => cases hy with | cons h2 t2 => rw [h1.inj h2, ih t2]
theorem IsTK.typeIs {s : Shared} {ks : List Item} {a : Addr} (x : IsTK prog w s.heap ks a) : s.TypeIs (.ref a) "tuple" := let ⟨o, _, _, ho, hc, _⟩ := x; ⟨o, ho, hc⟩
theorem IsTK.inj {h : Heap} {a : Addr} {x y : List Item} (hx : IsTK prog w h x a) (hy : IsTK prog w h y a) : x = y := by
  obtain ⟨o, its, n, h1, _, h2, h3⟩ := hx
  obtain ⟨o', its', n', g1, _, g2, g3⟩ := hy
  rw [h1] at g1
  cases g1
  rw [h2] at g2
  cases g2
  exact h3.inj g3
theorem ItIs.at' {h h' : Heap} {k : Item} {v : Value} (x : ItIs prog w h k v) (hk : ∀ b ks, IsTupleKey (intKind prog w) h ks b → ∀ o, h.get? b = some o → h'.get? b = some o) : ItIs prog w h' k v := by
  cases x with
  | key h1 h2 => exact .key h1 h2
  | one h1 =>
    obtain ⟨o, its, n, g1, g2, g3, g4⟩ := id h1
    exact .one ⟨o, its, n, hk _ _ h1 _ g1, g2, g3, g4⟩
theorem ItsAre.at' {h h' : Heap} {ks : List Item} {vs : List Value} (x : ItsAre prog w h ks vs) (hk : ∀ b ks, IsTupleKey (intKind prog w) h ks b → ∀ o, h.get? b = some o → h'.get? b = some o) : ItsAre prog w h' ks vs := by
  induction x with
  | nil => exact .nil
  | cons a _ ih => exact .cons (a.at' hk) ih
theorem IsTK.keeps {h h' : Heap} {ks : List Item} {a d : Addr} {o : Obj} {es : Array DictEntry} {ep : Nat} (x : IsTK prog w h ks a) (ho : h.get? d = some o) (hd : o.data = .dict es ep) (hs : Heap.SameBut d h h') : IsTK prog w h' ks a := by
  obtain ⟨o', its, n, g1, g2, g3, g4⟩ := x
  have nd : ∀ {b : Addr} {q : Obj} {i : Array Value} {m : Nat}, h.get? b = some q → q.data = .seq i m → b ≠ d := fun {b q i m} e1 e2 z => by
    rw [z, ho] at e1
    cases e1
    rw [hd] at e2
    cases e2
  refine ⟨o', its, n, (hs.2 a (nd g1 g3)).trans g1, g2, g3, g4.at' fun b ks hb o2 e => ?_⟩
  obtain ⟨o3, i3, n3, e1, _, e3, _⟩ := hb
  exact (hs.2 b (nd e1 e3)).trans e
/-- what they say as data -/
def itD : Item → PyData
  | .inl (.inl i) => .int i
  | .inl (.inr x) => .str x
  | .inr ns => .tuple (ns.map .int)
theorem reads_ints {h : Heap} : ∀ {ns : List Int} {vs : List Value}, ItemsAre (intKind prog w) ns vs → ReadsAll h vs (ns.map PyData.int) []
  | [], _, hx => by cases hx; exact .nil
  | n :: ns, _, hx => by
    cases hx with
    | cons h1 h2 =>
      obtain ⟨t, rfl⟩ := Value.isInt_shape h1
      exact .cons (.int n t) (reads_ints h2)
theorem ItIs.reads {h : Heap} {k : Item} {v : Value} (x : ItIs prog w h k v) : Reads h v (itD k) [] := by
  cases x with
  | key h1 _ =>
    rcases keyIs_shape h1 with ⟨i, t, rfl, rfl⟩ | ⟨x, t, rfl, rfl⟩
    · exact .int i t
    · exact .str x t
  | one h1 =>
    obtain ⟨o, its, n, g1, g2, g3, g4⟩ := h1
    exact .tuple g1 g2 g3 (reads_ints g4)
theorem ItsAre.reads {h : Heap} {ks : List Item} {vs : List Value} (x : ItsAre prog w h ks vs) : ReadsAll h vs (ks.map itD) [] := by
  induction x with
  | nil => exact .nil
  | cons a _ ih => exact .cons a.reads ih
theorem IsTK.reads {h : Heap} {ks : List Item} {a : Addr} (x : IsTK prog w h ks a) : Reads h (.ref a) (.tuple (ks.map itD)) [] := by
  obtain ⟨o, its, n, g1, g2, g3, g4⟩ := x
  exact .tuple g1 g2 g3 g4.reads
theorem ItIs.lay {h : Heap} {k : Item} {v : Value} (x : ItIs prog w h k v) : (itD k).canLay0 = true := by
  cases x with
  | @key k _ _ h2 =>
    rcases k with i | x
    · rfl
    · have := h2 x rfl
      simpa [itD, PyData.canLay0] using this
  | one _ => simp [itD, PyData.canLay0, ints_lay]
theorem ItsAre.lay {h : Heap} {ks : List Item} {vs : List Value} (x : ItsAre prog w h ks vs) : PyData.canLayAll0 (ks.map itD) = true := by
  induction x with
  | nil => rfl
  | cons a _ ih => simp [PyData.canLayAll0, a.lay, ih]
theorem itD_depth : ∀ ks : List Item, PyData.depthAll (ks.map itD) ≤ 2
  | [] => by simp [PyData.depthAll]
  | k :: ks => by
    have h := itD_depth ks
    have g : (itD k).depth ≤ 2 := by
      rcases k with (i | x) | ns
      · simp [itD, PyData.depth]
      · simp [itD, PyData.depth]
      · have := ints_depth ns
        simp only [itD, PyData.depth]
        omega
    simp only [List.map_cons, PyData.depthAll]
    omega
theorem itD_eqv : ∀ k l : Item, PyData.eqv (itD k) (itD l) = decide (k = l)
  | .inl (.inl i), .inl (.inl j) => by
    by_cases h : i = j <;> simp [itD, PyData.eqv, h]
  | .inl (.inl i), .inl (.inr x) => by simp [itD, PyData.eqv]
  | .inl (.inl i), .inr ns => by simp [itD, PyData.eqv]
  | .inl (.inr x), .inl (.inl j) => by simp [itD, PyData.eqv]
  | .inl (.inr x), .inl (.inr y) => by
    by_cases h : x = y <;> simp [itD, PyData.eqv, h]
  | .inl (.inr x), .inr ns => by simp [itD, PyData.eqv]
  | .inr ns, .inl (.inl j) => by simp [itD, PyData.eqv]
  | .inr ns, .inl (.inr y) => by simp [itD, PyData.eqv]
  | .inr ns, .inr ms => by
    simp only [itD, PyData.eqv, ints_eqv]
    by_cases h : ns = ms <;> simp [h]
theorem itsD_eqv : ∀ ks ls : List Item, PyData.eqvAll (ks.map itD) (ls.map itD) = decide (ks = ls)
  | [], [] => by simp [PyData.eqvAll]
  | [], _ :: _ => by simp [PyData.eqvAll]
  | _ :: _, [] => by simp [PyData.eqvAll]
  | k :: ks, l :: ls => by simp [PyData.eqvAll, itD_eqv, itsD_eqv ks ls]
/-- their hashes -/
def itH (prog : Program) (w : World) : Item → Int
  | .inl k => keyH w k
  | .inr ns => tupleKeyHash (intKind prog w) ns
def itDr : Item → Nat
  | .inl _ => 1
  | .inr ns => ns.length + 1
theorem ItIs.hash {A : Around} {E : Value → Shared → Prop} {s : Shared} {k : Item} {v : Value} {Q : Int → Shared → Prop} (hu : A.units < cLine) (x : ItIs prog w s.heap k v) (h : Q (itH prog w k) { s with toks := s.toks + itDr k }) : wpAny (model prog w) A (pyHash v) Q E s := by
  cases x with
  | key h1 _ => exact (mixKind prog w).pyHash h1 h
  | one h1 => exact wpAny_pyHash_tuple hu h1 h
def tkH (prog : Program) (w : World) (ks : List Item) : Int := reduceHash (Builtin.Tuple.tupleHashOf (ks.map (itH prog w)))
def tkDr (ks : List Item) : Nat := (ks.map itDr).sum + 1
theorem IsTK.hash {A : Around} {E : Value → Shared → Prop} {s : Shared} {ks : List Item} {a : Addr} {Q : Int → Shared → Prop} (hu : A.units + 1 < cLine) (hk : IsTK prog w s.heap ks a) (h : Q (tkH prog w ks) { s with toks := s.toks + tkDr ks }) :
    wpAny (model prog w) A (pyHash (.ref a)) Q E s := by
  have hT := hk.typeIs
  obtain ⟨o, its, n, ho, _, hd, hi⟩ := hk
  unfold pyHash
  first | unfold pyHashByItsType | skip
  first | refine wpAny_bind (wpAny_cRoomFor_or (.inr (Nat.lt_of_succ_lt hu)) ?_) | skip
  refine wpAny_bind (wpAny_specialOf hT F.slot_tuple_hash.lookup ?_)
  show wpAny _ _ (if (some (Value.builtin "tuple.__hash__") == some Value.none) = true then _ else _) Q E s
  rw [if_neg (by rw [beq_builtin_none]; exact Bool.false_ne_true)]
  refine wpAny_bind (wpAny_specialOf hT F.slot_tuple_hash.lookup ?_)
  show wpAny _ _ (callSpecialIfBoundUnlessNone? (.ref a) "__hash__" _ >>= _) Q E s
  refine wpAny_bind (wpAny_callSpecialIfBoundUnlessNone?_slot hT F.slot_tuple_hash (wpAny_call_entry F.slot_tuple_hash hT F.entry_tuple_hash ?_ (F.args_tuple_hash_1 _)))
  show wpAny _ _ (Builtin.Tuple.tupleItemsOf (.ref a) >>= _) _ _ s
  refine wpAny_bind (wpAny_tupleItemsOf ho hd ?_)
  refine wpAny_bind ?_
  rw [← Array.forIn_toList]
  refine wpAny_forIn_list _
    (fun rest (b : Array Int) s' => ∃ dn lf, ks = dn ++ lf ∧ ItsAre prog w s.heap lf rest ∧ b.toList = dn.map (itH prog w) ∧ s' = { s with toks := s.toks + (dn.map itDr).sum })
    _ ?_ ?_ _ _ ⟨[], ks, rfl, hi, rfl, rfl⟩
  · rintro x rest b s' ⟨dn, lf, rfl, hl, hb, rfl⟩
    cases hl with
    | @cons k _ ks' _ h1 hl' =>
      have e : s.toks + ((dn ++ [k]).map itDr).sum = s.toks + (dn.map itDr).sum + itDr k := by
        rw [List.map_append, List.sum_append, List.map_cons, List.map_nil, List.sum_cons, List.sum_nil]; omega
      refine wpAny_bind (h1.hash (s := { s with toks := s.toks + (dn.map itDr).sum }) hu ?_)
      first
        | exact wpAny_pure ⟨dn ++ [k], ks', by simp, hl', by simp [hb], by rw [e]⟩
        | exact wpAny_bind (wpAny_pure (wpAny_pure ⟨dn ++ [k], ks', by simp, hl', by simp [hb], by rw [e]⟩))
  · rintro b s' ⟨dn, lf, rfl, hl, hb, rfl⟩
    cases hl
    rw [List.append_nil] at h
    show wpAny _ _ (retInt (Builtin.Tuple.tupleHashOf b.toList)) _ _ _
    rw [hb]
    refine wpAny_ret_mkInt ?_
    show wpAny _ _ (if (decide (-(2 : Int) ^ 63 ≤ Builtin.Tuple.tupleHashOf (dn.map (itH prog w))) && decide (Builtin.Tuple.tupleHashOf (dn.map (itH prog w)) < 2 ^ 63)) = true then _ else _) Q E _
    unfold tkH tkDr reduceHash at h
    by_cases hr : (decide (-(2 : Int) ^ 63 ≤ Builtin.Tuple.tupleHashOf (dn.map (itH prog w))) && decide (Builtin.Tuple.tupleHashOf (dn.map (itH prog w)) < 2 ^ 63)) = true
    · rw [if_pos hr]
      rw [if_pos hr] at h
      exact wpAny_pure (by simpa [Nat.add_assoc] using h)
    · rw [if_neg hr]
      rw [if_neg hr] at h
      exact wpAny_bind (wpAny_rule (wpAny_pure (by simpa [Nat.add_assoc] using h)))
theorem IsTK.eq {A : Around} {E : Value → Shared → Prop} {s : Shared} {x y : List Item} {a b : Addr} {Q : Bool → Shared → Prop} (hu : A.units + 4 < cLine) (hx : IsTK prog w s.heap x a) (hy : IsTK prog w s.heap y b) (h : Q (decide (x = y)) s) :
    wpAny (model prog w) A (eqBool (.ref a) (.ref b)) Q E s := by
  have lx : PyData.canLay0 (.tuple (x.map itD)) = true := by
    obtain ⟨_, _, _, _, _, _, g⟩ := hx
    simpa [PyData.canLay0] using g.lay
  have ly : PyData.canLay0 (.tuple (y.map itD)) = true := by
    obtain ⟨_, _, _, _, _, _, g⟩ := hy
    simpa [PyData.canLay0] using g.lay
  refine SeqAt.eqBoolOverData prog w A E s _ _ _ _ _ _ Q hx.reads hy.reads lx ly ?_ ?_
  · have d1 := itD_depth x
    have d2 : (PyData.tuple (x.map itD)).depth ≤ 3 := by
      simp only [PyData.depth]
      omega
    have := Nat.min_le_left (PyData.tuple (x.map itD)).depth (PyData.tuple (y.map itD)).depth
    omega
  · rw [show PyData.eqv (.tuple (x.map itD)) (.tuple (y.map itD)) = decide (x = y) from by rw [PyData.eqv, itsD_eqv]]
    exact h
theorem quiet_tup {M : Model} {A : Around} {E : Value → Shared → Prop} {s : Shared} {a : Addr} {o : Obj} {its : Array Value} {n m : Nat} {Q : Bool → Shared → Prop} (ho : s.heap.get? a = some o) (hc : o.cls = .type "tuple") (hd : o.data = .seq its n)
    (hi : ∀ v ∈ its.toList, ∀ Q' : Bool → Shared → Prop, Q' true s → wpAny M A (eqIsQuiet m v) Q' E s) (h : Q true s) : wpAny M A (eqIsQuiet (m + 1) (.ref a)) Q E s := by
  have hT : s.TypeIs (.ref a) "tuple" := ⟨o, ho, hc⟩
  unfold eqIsQuiet
  refine wpAny_bind (wpAny_specialOf hT F.slot_tuple_eq.lookup ?_)
  show wpAny _ _ (isInstance (.ref a) (.type "tuple") >>= _) _ _ s
  refine wpAny_bind (wpAny_isInstance hT isSubtype_tuple_tuple ?_)
  simp only [Bool.not_true, Bool.false_eq_true, if_false]
  refine wpAny_bind (wpAny_seqItems ho hd ?_)
  refine wpAny_bind ?_
  show wpAny _ _ (forIn its _ _) _ _ s
  rw [← Array.forIn_toList]
  refine wpAny_forIn_list _ (fun rest r s' => r.1 = none ∧ s' = s ∧ ∀ v ∈ rest, v ∈ its.toList) _ ?_ ?_ _ _ ⟨rfl, rfl, fun _ h => h⟩
  · rintro v rest r s' ⟨hr, rfl, hall⟩
    refine wpAny_bind (hi v (hall v List.mem_cons_self) _ ?_)
    simp only [Bool.not_true, Bool.false_eq_true, if_false]
    exact wpAny_pure ⟨rfl, rfl, fun u hu' => hall u (List.mem_cons_of_mem _ hu')⟩
  · rintro ⟨r1, r2⟩ s' ⟨hr, rfl, _⟩
    simp only at hr
    subst hr
    exact wpAny_pure h
theorem ItsAre.mem {h : Heap} {ks : List Item} {vs : List Value} (x : ItsAre prog w h ks vs) : ∀ v ∈ vs, ∃ k, ItIs prog w h k v := by
  induction x with
  | nil => intro v hv; cases hv
  | cons a _ ih =>
    intro v hv
    rcases List.mem_cons.mp hv with rfl | hv
    · exact ⟨_, a⟩
    · exact ih v hv
theorem IsTK.quiet {A : Around} {E : Value → Shared → Prop} {s : Shared} {ks : List Item} {a : Addr} {Q : Bool → Shared → Prop} (hk : IsTK prog w s.heap ks a) (h : Q true s) : wpAny (model prog w) A (eqIsQuiet 8 (.ref a)) Q E s := by
  obtain ⟨o, its, n, ho, hc, hd, hi⟩ := hk
  refine quiet_tup ho hc hd (fun v hv Q' q => ?_) h
  obtain ⟨k, hk⟩ := hi.mem v hv
  cases hk with
  | key h1 _ =>
    rw [eqIsQuiet_byValue _ ((mixKind prog w).byValue _ _ h1)]
    exact wpAny_pure q
  | one h1 =>
    obtain ⟨o2, its2, n2, ho2, hc2, hd2, hi2⟩ := h1
    refine quiet_tup ho2 hc2 hd2 (fun v2 hv2 Q2 q2 => ?_) q
    rw [eqIsQuiet_byValue _ (hi2.byValue v2 hv2)]
    exact wpAny_pure q2
end
def tkKind (prog : Program) (w : World) : HeapKind prog w (List Item) where
  is := IsTK prog w
  hash := tkH prog w
  draws := tkDr
  room := fun A => A.units + 4 < cLine
  inj := fun hx hy => hx.inj hy
  keeps := fun x ho hd hs => x.keeps ho hd hs
  pyHash := fun hu hk h => hk.hash (by omega) h
  eqBool := fun hu hx hy h => hx.eq hu hy h
  quiet := fun hk h => hk.quiet h
/-! ### over the layer -/
/-- a dict of such keys, as far as its own object says -/
def MkD (P : Program) (w : World) (d : Addr) (kvs : List (List Item × Addr × Int)) : HO := .ext fun h => (d == sysModules) = false ∧ (kvs.map (·.1)).Nodup ∧ ∃ (o : Obj) (es : Array DictEntry) (ep : Nat), h.get? d = some o ∧ o.ExactDict ∧ o.data = .dict es ep ∧
  Paired (fun (q : List Item × Addr × Int) (e : DictEntry) => e.hash = tkH P w q.1 ∧ e.key = .ref q.2.1 ∧ ∃ t, e.val = .int q.2.2 t) kvs es.toList
/-- a value's item -/
inductive ItV (K : PySem.W.Frag) (H : Hp) : Item → V → Prop
  | int (i : Int) : ItV K H (.inl (.inl i)) (.int i)
  | str (x : Str) : PyData.strOk x = true → ItV K H (.inl (.inr x)) (.str x)
  | one {ns : List Int} {b : Addr} : SqT K H b (ns.map V.int) → ItV K H (.inr ns) (.ref b)
def KeyAt (K : PySem.W.Frag) (H : Hp) (ks : List Item) (a : Addr) : Prop := ∃ vs : List V, SqT K H a vs ∧ Paired (ItV K H) ks vs
section
variable {X : Cx} {pins : List (Addr × Obj)} {σ : St} {H : Hp} {s : Shared}
theorem inv_its (I : Inv X pins σ H s) : ∀ {ks : List Item} {vs : List V} {us : List Value}, Paired (ItV X.K H) ks vs → Vals vs us → ItsAre X.prog X.w s.heap ks us
  | _, _, _, .nil, r => by cases r; exact .nil
  | _, _, _, .cons hk t, r => by
    cases r with
    | cons ru rt =>
      refine .cons ?_ (inv_its I t rt)
      cases hk with
      | int i =>
        obtain ⟨tk, rfl⟩ := (show ∃ t, _ = Value.int i t from ru)
        exact .key (keyIs_int i tk) (fun x z => nomatch z)
      | str x hx =>
        obtain ⟨tk, rfl⟩ := (show ∃ t, _ = Value.str x t from ru)
        exact .key (keyIs_str x tk) (fun y z => by cases z; exact hx)
      | one hq =>
        obtain rfl := (show _ = Value.ref _ from ru)
        exact .one (I.isT hq)
theorem inv_tk (I : Inv X pins σ H s) {ks : List Item} {a : Addr} (h : KeyAt X.K H ks a) : IsTK X.prog X.w s.heap ks a := by
  obtain ⟨vs, hs, hp⟩ := h
  obtain ⟨its, rv, ⟨o, ho, hc, n, hd⟩, _⟩ := I.tuple hs
  exact ⟨o, its.toArray, n, ho, hc, hd, by simpa using inv_its I hp rv⟩
/-- the number of a key -/
def atK (kvs : List (List Item × Addr × Int)) (ks : List Item) : Option Int := (kvs.find? fun q => decide (q.1 = ks)).map (·.2.2)
abbrev RelK (q : List Item × Addr × Int) (x : List Item × Addr × Value) : Prop := x.1 = q.1 ∧ x.2.1 = q.2.1 ∧ ∃ t, x.2.2 = .int q.2.2 t
theorem atK_rel {kvs : List (List Item × Addr × Int)} {xs : List (List Item × Addr × Value)} (r : Paired RelK kvs xs) (ks : List Item) :
    (atK kvs ks = none → atKey xs ks = none) ∧ ∀ n, atK kvs ks = some n → ∃ p t, atKey xs ks = some p ∧ p.2 = .int n t := by
  induction r with
  | nil => exact ⟨fun _ => rfl, fun n h => by cases h⟩
  | @cons q x kvs xs h t ih =>
    obtain ⟨h1, h2, tk, h3⟩ := h
    by_cases e : q.1 = ks
    · have e2 : x.1 = ks := h1.trans e
      refine ⟨fun z => ?_, fun n z => ?_⟩
      · simp [atK, e] at z
      · simp [atK, e] at z
        refine ⟨x.2, tk, by simp [atKey, e2], ?_⟩
        rw [h3, z]
    · have e2 : ¬ x.1 = ks := fun z => e (h1.symm.trans z)
      refine ⟨fun z => ?_, fun n z => ?_⟩
      · have := ih.1 (by simpa [atK, e] using z)
        simpa [atKey, e2] using this
      · obtain ⟨p, t2, g1, g2⟩ := ih.2 n (by simpa [atK, e] using z)
        exact ⟨p, t2, by simpa [atKey, e2] using g1, g2⟩
theorem mk_xs {P : Program} {w : World} : ∀ {kvs : List (List Item × Addr × Int)} {es : List DictEntry}, Paired (fun (q : List Item × Addr × Int) (e : DictEntry) => e.hash = tkH P w q.1 ∧ e.key = .ref q.2.1 ∧ ∃ t, e.val = .int q.2.2 t) kvs es →
    ∃ xs : List (List Item × Addr × Value), es = xs.map (entryOfKey (tkKind P w)) ∧ Paired RelK kvs xs
  | _, _, .nil => ⟨[], rfl, .nil⟩
  | _, _, @Paired.cons _ _ _ q e _ _ h t => by
    obtain ⟨xs, h1, h2⟩ := mk_xs t
    obtain ⟨g1, g2, tk, g3⟩ := h
    refine ⟨(q.1, q.2.1, e.val) :: xs, ?_, .cons ⟨rfl, rfl, tk, g3⟩ h2⟩
    rw [List.map_cons, ← h1]
    congr 1
    obtain ⟨eh, ek, ev⟩ := e
    dsimp only at g1 g2
    rw [g1, g2]
    rfl
theorem keys_rel {kvs : List (List Item × Addr × Int)} {xs : List (List Item × Addr × Value)} (r : Paired RelK kvs xs) : xs.map (·.1) = kvs.map (·.1) := by
  induction r with
  | nil => rfl
  | cons h _ ih => rw [List.map_cons, List.map_cons, ih, h.1]
theorem mem_rel {kvs : List (List Item × Addr × Int)} {xs : List (List Item × Addr × Value)} (r : Paired RelK kvs xs) : ∀ x ∈ xs, ∃ q ∈ kvs, RelK q x := by
  induction r with
  | nil => intro x hx; cases hx
  | cons h _ ih =>
    intro x hx
    rcases List.mem_cons.mp hx with rfl | hx
    · exact ⟨_, List.mem_cons_self, h⟩
    · obtain ⟨q, hq, hr⟩ := ih x hx
      exact ⟨q, List.mem_cons_of_mem _ hq, hr⟩
theorem inv_mkd (I : Inv X pins σ H s) {d : Addr} {kvs : List (List Item × Addr × Int)} (e : H d = some (MkD X.prog X.w d kvs)) (hk : ∀ q ∈ kvs, KeyAt X.K H q.1 q.2.1) :
    (d == sysModules) = false ∧ ∃ xs, s.heap.DictOfH (tkKind X.prog X.w) d xs ∧ Paired RelK kvs xs := by
  obtain ⟨h1, h2, o, es, ep, h3, h4, h5, h6⟩ := (I.hok d _ e).1
  obtain ⟨xs, g1, g2⟩ := mk_xs h6
  refine ⟨h1, xs, ⟨o, es, ep, h3, h4, h5, g1, fun x hx => ?_, by rw [keys_rel g2]; exact h2⟩, g2⟩
  obtain ⟨q, hq, r1, r2, _⟩ := mem_rel g2 x hx
  rw [r1, r2]
  exact inv_tk I (hk q hq)
theorem mkD_ok {P : Program} {w : World} {H : Hp} {h : Heap} {d : Addr} {kvs : List (List Item × Addr × Int)} {xs : List (List Item × Addr × Value)} (h1 : (d == sysModules) = false) (h2 : h.DictOfH (tkKind P w) d xs) (r : Paired RelK kvs xs) : ObjOk P w H h d (MkD P w d kvs) := by
  obtain ⟨o, es, ep, g1, g2, g3, g4, g5, g6⟩ := h2
  refine ⟨⟨h1, by rw [← keys_rel r]; exact g6, o, es, ep, g1, g2, g3, ?_⟩, ⟨o, g1⟩, fun h1 h2 z k => ?_⟩
  · rw [g4]
    clear g4 g5 g6
    induction r with
    | nil => exact .nil
    | cons hr _ ih =>
      refine .cons ⟨?_, ?_, ?_⟩ ih
      · show tkH P w _ = _
        rw [hr.1]
      · show Value.ref _ = _
        rw [hr.2.1]
      · exact hr.2.2
  · obtain ⟨z1, z2, o, es, ep, z3, z4⟩ := z
    exact ⟨z1, z2, o, es, ep, k _ z3, z4⟩
/-- key not in d -/
def rNinTK (K : PySem.W.Frag) (P : Program) (w : World) : R2 := fun x y H Q => ∃ (a d : Addr) (ks : List Item) (kvs : List (List Item × Addr × Int)), x = .ref a ∧ y = .ref d ∧ KeyAt K H ks a ∧ H d = some (MkD P w d kvs) ∧ (∀ q ∈ kvs, KeyAt K H q.1 q.2.1) ∧ Q (.bl (!(atK kvs ks).isSome)) H
theorem op_ninTK (hu : X.A.units + 64 < cLine) : OpR X (compareOp .NotIn) (rNinTK X.K X.prog X.w) := by
  intro pins s σ H x y v u Q I rx ry h
  obtain ⟨a, d, ks, kvs, rfl, rfl, hk, hd, hq, q⟩ := h
  cases rx
  cases ry
  obtain ⟨lo, xs, hm, r⟩ := inv_mkd I hd hq
  refine PyProof.Rows.wpAny_notIn_heap (knd := tkKind X.prog X.w) (by show X.A.units + 1 + 4 < cLine; omega) (inv_tk I hk) lo hm ?_
  have e : (atKey xs ks).isSome = (atK kvs ks).isSome := by
    obtain ⟨r1, r2⟩ := atK_rel r ks
    cases z : atK kvs ks with
    | none => rw [r1 z]; rfl
    | some n =>
      obtain ⟨p, t, g, _⟩ := r2 n z
      rw [g]; rfl
  rw [e]
  exact ⟨.bl (!(atK kvs ks).isSome), H, I.tok _, rfl, q⟩
/-- d[key] -/
def rIxTK (K : PySem.W.Frag) (P : Program) (w : World) : R2 := fun x y H Q => ∃ (a d : Addr) (ks : List Item) (kvs : List (List Item × Addr × Int)) (n : Int), x = .ref d ∧ y = .ref a ∧ KeyAt K H ks a ∧ H d = some (MkD P w d kvs) ∧ (∀ q ∈ kvs, KeyAt K H q.1 q.2.1) ∧ atK kvs ks = some n ∧ Q (.int n) H
theorem ix_tk (hu : X.A.units + 64 < cLine) : IxR X (rIxTK X.K X.prog X.w) := by
  intro value slice pins s σ H x y v u Q I rx ry h hs
  obtain ⟨a, d, ks, kvs, n, rfl, rfl, hk, hd, hq, hn, q⟩ := h
  cases rx
  cases ry
  obtain ⟨lo, xs, hm, r⟩ := inv_mkd I hd hq
  obtain ⟨p, t, g1, g2⟩ := (atK_rel r ks).2 n hn
  refine PyProof.Rows.subscriptTail_builtinR (x := p.2) hm.typeIs slot_dict_getitem.lookup (wpAny_getItem_heap (knd := tkKind X.prog X.w) (by show X.A.units + 1 + 4 < cLine; omega) (inv_tk I hk) hm g1 ⟨rfl, ?_⟩) hs
  rw [g2]
  exact ⟨.int n, H, I.tok _, ⟨t, rfl⟩, q⟩
/-- d[key] = n, a new key -/
def rSetTK (K : PySem.W.Frag) (P : Program) (w : World) : V → V → V → Hp → (Hp → Prop) → Prop := fun o i v H Q => ∃ (a d : Addr) (ks : List Item) (kvs : List (List Item × Addr × Int)) (n : Int), o = .ref d ∧ i = .ref a ∧ v = .int n ∧ KeyAt K H ks a ∧ H d = some (MkD P w d kvs) ∧
  (∀ q ∈ kvs, KeyAt K H q.1 q.2.1) ∧ atK kvs ks = none ∧ kvs.length ≤ 900 ∧ Q (upd H d (MkD P w d (kvs ++ [(ks, a, n)])))
theorem paired_snoc {kvs : List (List Item × Addr × Int)} {xs : List (List Item × Addr × Value)} (r : Paired RelK kvs xs) {q : List Item × Addr × Int} {x : List Item × Addr × Value} (h : RelK q x) : Paired RelK (kvs ++ [q]) (xs ++ [x]) := r.snoc h
theorem set_tk (hu : X.A.units + 64 < cLine) : PSet X (rSetTK X.K X.prog X.w) := by
  intro pins s σ H o i v ov iv u Q I ro ri rv h
  obtain ⟨a, d, ks, kvs, n, rfl, rfl, rfl, hk, hd, hq, hn, hl, q⟩ := h
  cases ro
  cases ri
  obtain ⟨t, rfl⟩ := rv
  obtain ⟨lo, xs, hm, r⟩ := inv_mkd I hd hq
  have hx : xs.length = kvs.length := (Paired.length r).symm
  refine wpAny_setItem_heap (knd := tkKind X.prog X.w) (by show X.A.units + 1 + 4 < cLine; omega) (inv_tk I hk) hm (fun h' hm' hs' => ?_) (by rw [hx, sizeLine_eq]; omega)
  rw [storedH_new ((atK_rel r ks).1 hn)] at hm'
  have he : ∃ q, h'.get? d = some q := let ⟨q, _, _, hq, _⟩ := hm'; ⟨q, hq⟩
  exact ⟨_, I.write (x := d) (e := d) (t' := s.toks + tkDr ks) (o := MkD X.prog X.w d (kvs ++ [(ks, a, n)])) (by rw [hd]; exact True.intro) (.inl rfl) (fun b q hb z => (hs'.2 b hb).trans z) he (mkD_ok lo hm' (paired_snoc r ⟨rfl, rfl, t, rfl⟩)), q⟩
/-- {} -/
theorem pe_mkd0 {pos : Pos} : PE X (.Dict [] [] pos) (fun _ H Q => ∀ d, H d = none → Q (.ref d) (upd H d (MkD X.prog X.w d []))) := ⟨fun pins s σ H Q I h =>
  wpAny_Dict_empty ⟨.ref s.heap.objs.size, _, I.laid (a := s.heap.objs.size) (o := MkD X.prog X.w s.heap.objs.size []) (t' := s.toks) (fun _ _ q => Heap.get?_push_of_some _ q) (Nat.le_refl _)
    (mkD_ok (beq_eq_false_iff_ne.mpr (Ne.symm (Nat.ne_of_lt I.big))) (Heap.DictOfH.new s.heap) .nil), rfl, h _ (I.hok.fresh (Nat.le_refl _))⟩⟩
end

/-! ### list(zip(a, b)) of two tuples -/
namespace ZL
open PySem.W PySem.Calls
section
variable {prog : Program} {w : World} {A : Around} {E : Value → Shared → Prop} {s : Shared}
/-- a further pair: the one before is out -/
theorem held_item {z TI TO T i1 i2 l1 l2 : Addr} {f : Bool} {oT : Obj} {k1 k2 : Nat} {xs ys : Array Value} {x y : Value} {Q : Option Value → Shared → Prop} (D : ZipApart z TI TO i1 i2 l1 l2)
    (hz : IsZipHeld s.heap z TI TO T f) (hT : s.heap.get? T = some oT) (hTI : IsPair s.heap TI (.ref i1) (.ref i2))
    (h1 : s.heap.IsTupleIter i1 l1 k1) (h2 : s.heap.IsTupleIter i2 l2 k2) (hl1 : s.heap.IsTuple l1 xs) (hl2 : s.heap.IsTuple l2 ys) (hx : xs[k1]? = some x) (hy : ys[k2]? = some y)
    (hQ : ∀ h', IsZipHeld h' z TI TO T true → h'.IsTupleIter i1 l1 (k1 + 1) → h'.IsTupleIter i2 l2 (k2 + 1) → IsPair h' s.heap.objs.size x y → h'.objs.size = s.heap.objs.size + 1 →
      (∀ c o, c ≠ z → c ≠ i1 → c ≠ i2 → s.heap.get? c = some o → h'.get? c = some o) → Q (some (.ref s.heap.objs.size)) { s with heap := h' }) : wpAny (model prog w) A (pyNext (.ref z)) Q E s := by
  have hTy : s.TypeIs (.ref z) "zip" := ⟨_, hz, rfl⟩
  unfold pyNext
  refine wpAny_bind (wpAny_attempt (wpAny_callSpecial?_slot (name := Str.ofString "__next__") hTy F.slot_zip_next (wpAny_call_entry F.slot_zip_next hTy F.entry_zip_next ?_ (F.args_zip_next_1 _))))
  show wpAny _ _ (field (.ref z) 2 >>= _) _ _ _
  refine wpAny_bind (wpAny_field hz rfl (x := .bool false) rfl ?_)
  show wpAny _ _ (field (.ref z) 3 >>= _) _ _ _
  refine wpAny_bind (wpAny_field hz rfl (x := .ref TI) rfl ?_)
  refine wpAny_bind (wpAny_seqItems hTI rfl ?_)
  show wpAny _ _ (Builtin.SmallTypes.ownedTupleIsFree (.ref z) >>= _) _ _ _
  refine wpAny_bind (wpAny_tupleHeld_zip hz hT fun g1 z1 s1 => ?_)
  simp only [Bool.false_eq_true, if_false]
  refine wpAny_bind ?_
  rw [← Array.forIn_toList]
  simp only [List.forIn_cons, List.forIn_nil]
  refine wpAny_bind (wpAny_bind (wpAny_holding ?_))
  show wpAny _ _ (Builtin.SmallTypes.nextOf (.ref i1) >>= _) _ _ _
  refine wpAny_bind (RZ.nextOf_tuple_item (s := { s with heap := g1 }) (h1.extBut s1.extBut D.i1z) (hl1.extBut s1.extBut D.l1z) hx fun g2 i12 s2 => wpAny_pure ?_)
  refine wpAny_pure (wpAny_bind (wpAny_bind (wpAny_holding ?_)))
  show wpAny _ _ (Builtin.SmallTypes.nextOf (.ref i2) >>= _) _ _ _
  refine wpAny_bind (RZ.nextOf_tuple_item (s := { s with heap := g2 }) ((h2.extBut s1.extBut D.i2z).extBut s2.extBut D.i12.symm) ((hl2.extBut s1.extBut D.l2z).extBut s2.extBut D.l2i1) hy fun g3 i23 s3 => wpAny_pure ?_)
  refine wpAny_pure (wpAny_pure ?_)
  show wpAny _ _ (newTuple [x, y] >>= _) _ _ _
  refine wpAny_bind (wpAny_newTuple ?_)
  have hsz : g3.objs.size = s.heap.objs.size := by rw [s3.1, s2.1, s1.1]
  have z3 : IsZipHeld g3 z TI TO T true := s3.extBut _ _ D.i2z.symm (s2.extBut _ _ D.i1z.symm z1)
  have hk : ∀ c o, c ≠ z → c ≠ i1 → c ≠ i2 → s.heap.get? c = some o → g3.get? c = some o := fun c o c1 c2 c3 e => s3.extBut _ _ c3 (s2.extBut _ _ c2 (s1.extBut _ _ c1 e))
  have i13 : g3.IsTupleIter i1 l1 (k1 + 1) := i12.extBut s3.extBut D.i12
  refine wpAny_pure ⟨_, rfl, wpAny_pure ?_⟩
  show Q (some (.ref g3.objs.size)) _
  have hp : IsPair (g3.push { cls := .type "tuple", data := .seq #[x, y] }) g3.objs.size x y := Heap.get?_push_size _ rfl
  have z4 : (g3.push { cls := .type "tuple", data := .seq #[x, y] }).objs.size = g3.objs.size + 1 := Heap.size_push ..
  rw [hsz] at hp z4 ⊢
  exact hQ _ (Heap.get?_push_of_some _ z3) (i13.at fun o e => Heap.get?_push_of_some _ e) (i23.at fun o e => Heap.get?_push_of_some _ e) hp z4 fun c o c1 c2 c3 e => Heap.get?_push_of_some _ (hk c o c1 c2 c3 e)
theorem held_end {z TI TO T i1 i2 l1 l2 : Addr} {f : Bool} {oT : Obj} {k1 : Nat} {xs : Array Value} {Q : Option Value → Shared → Prop} (hh : A.handled = none) (D : ZipApart z TI TO i1 i2 l1 l2)
    (hz : IsZipHeld s.heap z TI TO T f) (hT : s.heap.get? T = some oT) (hTI : IsPair s.heap TI (.ref i1) (.ref i2))
    (h1 : s.heap.IsTupleIter i1 l1 k1) (hl1 : s.heap.IsTuple l1 xs) (hx : xs[k1]? = none)
    (hQ : ∀ h', (∀ c o, c ≠ z → c ≠ i1 → s.heap.get? c = some o → h'.get? c = some o) → Q none { s with heap := h' }) : wpAny (model prog w) A (pyNext (.ref z)) Q E s := by
  have hTy : s.TypeIs (.ref z) "zip" := ⟨_, hz, rfl⟩
  unfold pyNext
  refine wpAny_bind (wpAny_attempt (wpAny_callSpecial?_slot (name := Str.ofString "__next__") hTy F.slot_zip_next (wpAny_call_entry F.slot_zip_next hTy F.entry_zip_next ?_ (F.args_zip_next_1 _))))
  show wpAny _ _ (field (.ref z) 2 >>= _) _ _ _
  refine wpAny_bind (wpAny_field hz rfl (x := .bool false) rfl ?_)
  show wpAny _ _ (field (.ref z) 3 >>= _) _ _ _
  refine wpAny_bind (wpAny_field hz rfl (x := .ref TI) rfl ?_)
  refine wpAny_bind (wpAny_seqItems hTI rfl ?_)
  show wpAny _ _ (Builtin.SmallTypes.ownedTupleIsFree (.ref z) >>= _) _ _ _
  refine wpAny_bind (wpAny_tupleHeld_zip hz hT fun g1 z1 s1 => ?_)
  simp only [Bool.false_eq_true, if_false]
  refine wpAny_bind ?_
  rw [← Array.forIn_toList]
  simp only [List.forIn_cons, List.forIn_nil]
  refine wpAny_bind (wpAny_bind (wpAny_holding ?_))
  show wpAny _ _ (Builtin.SmallTypes.nextOf (.ref i1) >>= _) _ _ _
  refine wpAny_bind (RZ.nextOf_tuple_end (s := { s with heap := g1 }) hh (h1.extBut s1.extBut D.i1z) (hl1.extBut s1.extBut D.l1z) hx fun g2 e s2 he => ?_)
  obtain ⟨o, ho, hc⟩ := he
  refine wpAny_bind (wpAny_isInstance (T := "StopIteration") (b := true) ⟨o, ho, hc⟩ isSubtype_stop ?_)
  exact wpAny_pure (hQ _ fun c o c1 c2 e => s2 _ _ c2 (s1.extBut _ _ c1 e))
/-- the walk's state -/
structure St (xs ys : Array Value) (S z TI TO i1 i2 l1 l2 : Addr) (h : Heap) (i : Nat) : Prop where
  ti : IsPair h TI (.ref i1) (.ref i2)
  it1 : h.IsTupleIter i1 l1 i
  it2 : h.IsTupleIter i2 l2 i
  t1 : h.IsTuple l1 xs
  t2 : h.IsTuple l2 ys
  zp : (IsZip h z TI TO .none ∧ ∃ a b, IsPair h TO a b) ∨ ∃ T f oT, IsZipHeld h z TI TO T f ∧ h.get? T = some oT ∧ T ≠ z ∧ T ≠ i1 ∧ T ≠ i2 ∧ T ≠ S
structure Off (S z TI TO i1 i2 l1 l2 : Addr) : Prop where
  z : S ≠ z
  ti : S ≠ TI
  to : S ≠ TO
  i1 : S ≠ i1
  i2 : S ≠ i2
  l1 : S ≠ l1
  l2 : S ≠ l2
variable {xs ys : Array Value} {S z TI TO i1 i2 l1 l2 : Addr}
theorem St.keep {h h' : Heap} {i : Nat} (x : St xs ys S z TI TO i1 i2 l1 l2 h i) (O : Off S z TI TO i1 i2 l1 l2) (hk : ∀ b o, b ≠ S → h.get? b = some o → h'.get? b = some o) : St xs ys S z TI TO i1 i2 l1 l2 h' i := by
  refine ⟨hk _ _ O.ti.symm x.ti, x.it1.at fun o e => hk _ o O.i1.symm e, x.it2.at fun o e => hk _ o O.i2.symm e, x.t1.at fun o e => hk _ o O.l1.symm e, x.t2.at fun o e => hk _ o O.l2.symm e, ?_⟩
  rcases x.zp with ⟨a, p, q, b⟩ | ⟨T, f, oT, a, b, r1, r2, r3, r4⟩
  · exact .inl ⟨hk _ _ O.z.symm a, p, q, hk _ _ O.to.symm b⟩
  · exact .inr ⟨T, f, oT, hk _ _ O.z.symm a, hk _ _ r4 b, r1, r2, r3, r4⟩
theorem item {i : Nat} {x y : Value} {Q : Option Value → Shared → Prop} (D : ZipApart z TI TO i1 i2 l1 l2) (st : St xs ys S z TI TO i1 i2 l1 l2 s.heap i) (hS : S < s.heap.objs.size) (hx : xs[i]? = some x) (hy : ys[i]? = some y)
    (hQ : ∀ h', St xs ys S z TI TO i1 i2 l1 l2 h' (i + 1) → IsPair h' s.heap.objs.size x y → h'.objs.size = s.heap.objs.size + 1 → (∀ c o, c ≠ z → c ≠ TO → c ≠ i1 → c ≠ i2 → s.heap.get? c = some o → h'.get? c = some o) → Q (some (.ref s.heap.objs.size)) { s with heap := h' }) :
    wpAny (model prog w) A (pyNext (.ref z)) Q E s := by
  have lt : ∀ {c o}, s.heap.get? c = some o → s.heap.objs.size ≠ c := fun e => Nat.ne_of_gt (Heap.lt_size e)
  have n1 : s.heap.objs.size ≠ i1 := let ⟨_, e, _⟩ := st.it1; lt e
  have n2 : s.heap.objs.size ≠ i2 := let ⟨_, e, _⟩ := st.it2; lt e
  rcases st.zp with ⟨hz, a, b, hTO⟩ | ⟨T, f, oT, hz, hT, r1, r2, r3, r4⟩
  · refine RZ.pyNext_zipT_item D hz st.ti hTO st.it1 st.it2 st.t1 st.t2 hx hy fun h' a1 a2 a3 a4 a5 a6 hk => ?_
    refine hQ h' ⟨hk _ _ D.TIz D.TITO D.TIi1 D.TIi2 st.ti, a3, a4, st.t1.at fun o e => hk _ o D.l1z D.l1TO D.l1i1 D.l1i2 e, st.t2.at fun o e => hk _ o D.l2z D.l2TO D.l2i1 D.l2i2 e, .inr ⟨s.heap.objs.size, false, _, a1, a5, lt hz, n1, n2, Nat.ne_of_gt hS⟩⟩ a5 a6 hk
  · refine held_item D hz hT st.ti st.it1 st.it2 st.t1 st.t2 hx hy fun h' a1 a3 a4 a5 a6 hk => ?_
    exact hQ h' ⟨hk _ _ D.TIz D.TIi1 D.TIi2 st.ti, a3, a4, st.t1.at fun o e => hk _ o D.l1z D.l1i1 D.l1i2 e, st.t2.at fun o e => hk _ o D.l2z D.l2i1 D.l2i2 e, .inr ⟨T, true, oT, a1, hk _ _ r1 r2 r3 hT, r1, r2, r3, r4⟩⟩ a5 a6 fun c o c1 _ c3 c4 e => hk c o c1 c3 c4 e
theorem done {i : Nat} {Q : Option Value → Shared → Prop} (hh : A.handled = none) (D : ZipApart z TI TO i1 i2 l1 l2) (st : St xs ys S z TI TO i1 i2 l1 l2 s.heap i) (hx : xs[i]? = none)
    (hQ : ∀ h', (∀ c o, c ≠ z → c ≠ TO → c ≠ i1 → c ≠ i2 → s.heap.get? c = some o → h'.get? c = some o) → Q none { s with heap := h' }) : wpAny (model prog w) A (pyNext (.ref z)) Q E s := by
  rcases st.zp with ⟨hz, a, b, hTO⟩ | ⟨T, f, oT, hz, hT, r1, r2, r3, r4⟩
  · exact RZ.pyNext_zipT_end hh D hz st.ti hTO st.it1 st.it2 st.t1 st.t2 (.inl hx) hQ
  · exact held_end hh D hz hT st.ti st.it1 st.t1 hx fun h' hk => hQ h' fun c o c1 _ c3 _ e => hk c o c1 c3 e
/-- what the new tuples say -/
structure Gp (xs ys : Array Value) (lo : Addr) (h : Heap) (as : List Addr) : Prop where
  rise : as.Pairwise (· < ·)
  above : ∀ a ∈ as, lo < a
  pairs : ∀ (j : Nat) (a : Addr), as[j]? = some a → ∃ x y, xs[j]? = some x ∧ ys[j]? = some y ∧ IsPair h a x y
theorem Gp.there {lo : Addr} {h : Heap} {as : List Addr} (g : Gp xs ys lo h as) {a : Addr} (ha : a ∈ as) : a < h.objs.size := by
  obtain ⟨j, hj⟩ := List.mem_iff_getElem?.mp ha
  obtain ⟨_, _, _, _, e⟩ := g.pairs j a hj
  exact Heap.lt_size e
abbrev Kept (S z TO i1 i2 : Addr) (h h' : Heap) : Prop := ∀ b o, b ≠ S → b ≠ z → b ≠ TO → b ≠ i1 → b ≠ i2 → h.get? b = some o → h'.get? b = some o
theorem loop {R : Result → Shared → Prop} {lo : Addr} (hh : A.handled = none) (D : ZipApart z TI TO i1 i2 l1 l2) (O : Off S z TI TO i1 i2 l1 l2) (hlo : S ≤ lo ∧ z ≤ lo ∧ TO ≤ lo ∧ i1 ≤ lo ∧ i2 ≤ lo) (hxy : xs.size = ys.size) (hn : xs.size ≤ 1000) (res : Value) {h₁ : Heap}
    (hR : ∀ h' tk acc c as, Kept S z TO i1 i2 h₁ h' → h'.get? S = some { cls := .type "list", dict := none, data := .seq acc c, slots := #[] } → as.length = xs.size → Gp xs ys lo h' as →
      acc.toList = as.map Value.ref → R (.ok (.ret res)) { s with heap := h', toks := tk }) :
    ∀ (k i : Nat) (h : Heap) (tk c : Nat) (acc : Array Value) (as : List Addr), xs.size - i = k → i ≤ xs.size → St xs ys S z TI TO i1 i2 l1 l2 h i → Kept S z TO i1 i2 h₁ h →
      h.get? S = some { cls := .type "list", dict := none, data := .seq acc c, slots := #[] } → acc.toList = as.map Value.ref → as.length = i → Gp xs ys lo h as → lo < h.objs.size →
      codeAny (model prog w) A (.builtin "list.extend.loop" ⟨[.ref S, .ref z, res], []⟩) R { s with heap := h, toks := tk } := by
  have off : ∀ {a : Addr}, lo < a → a ≠ S ∧ a ≠ z ∧ a ≠ TO ∧ a ≠ i1 ∧ a ≠ i2 := fun h => by
    obtain ⟨q1, q2, q3, q4, q5⟩ := hlo
    exact ⟨Nat.ne_of_gt (Nat.lt_of_le_of_lt q1 h), Nat.ne_of_gt (Nat.lt_of_le_of_lt q2 h), Nat.ne_of_gt (Nat.lt_of_le_of_lt q3 h), Nat.ne_of_gt (Nat.lt_of_le_of_lt q4 h), Nat.ne_of_gt (Nat.lt_of_le_of_lt q5 h)⟩
  intro k
  induction k with
  | zero =>
    intro i h tk c acc as hk hi st hkeep hS hacc hal hG hIs
    refine codeAny_builtin PySem.F.entry_extend_loop ?_
    rw [Around.under_plainId PySem.F.plain_extend_loop _]
    show wpAny _ A.in1 (pyNext (.ref z) >>= _) _ _ _
    refine wpAny_bind (done (s := { s with heap := h, toks := tk }) (A := A.in1) hh D st (by simp; omega) fun h' he => ?_)
    refine wpAny_pure (hR h' tk acc c as (fun b o h1 h2 h3 h4 h5 e => he b o h2 h3 h4 h5 (hkeep b o h1 h2 h3 h4 h5 e)) (he S _ O.z O.to O.i1 O.i2 hS) (by omega) ⟨hG.rise, hG.above, fun j a hj => ?_⟩ hacc)
    obtain ⟨x, y, e1, e2, e3⟩ := hG.pairs j a hj
    obtain ⟨_, n2, n3, n4, n5⟩ := off (hG.above a (List.mem_of_getElem? hj))
    exact ⟨x, y, e1, e2, he a _ n2 n3 n4 n5 e3⟩
  | succ k ih =>
    intro i h tk c acc as hk hi st hkeep hS hacc hal hG hIs
    have hlt : i < xs.size := by omega
    obtain ⟨x, hx⟩ : ∃ x, xs[i]? = some x := ⟨xs[i], Array.getElem?_eq_getElem hlt⟩
    obtain ⟨y, hy⟩ : ∃ y, ys[i]? = some y := ⟨ys[i], Array.getElem?_eq_getElem (by omega)⟩
    have hsz : acc.size = i := by rw [← Array.length_toList, hacc, List.length_map, hal]
    refine codeAny_builtin PySem.F.entry_extend_loop ?_
    rw [Around.under_plainId PySem.F.plain_extend_loop _]
    show wpAny _ A.in1 (pyNext (.ref z) >>= _) _ _ _
    refine wpAny_bind (item (s := { s with heap := h, toks := tk }) (S := S) D st (Heap.lt_size hS) hx hy fun h' st' ht hz hkp => ?_)
    dsimp only at ht hz hkp ⊢
    have hS' := hkp S _ O.z O.to O.i1 O.i2 hS
    have up : ∀ b o, b ≠ S → h'.get? b = some o → (h'.update S (Obj.mapSeq (·.push (Value.ref h.objs.size)))).get? b = some o := fun b o hb e => (Heap.get?_update_other _ _ (Ne.symm hb)).trans e
    have hSl : S < h.objs.size := Heap.lt_size hS
    show wpAny _ A.in1 (updateSeq S (·.push (Value.ref h.objs.size)) >>= _) _ _ _
    refine wpAny_bind ?_
    refine wpAny_updateSeq hS' rfl (wpAny_pure ⟨plainId_quiet PySem.F.plain_extend_loop _, ih (i + 1) _ tk _ (acc.push (Value.ref h.objs.size)) (as ++ [h.objs.size]) (by omega) hlt (st'.keep O up)
      (fun b o h1 h2 h3 h4 h5 e => up b o h1 (hkp b o h2 h3 h4 h5 (hkeep b o h1 h2 h3 h4 h5 e))) (Heap.get?_update_self _ hS' rfl) (by rw [Array.toList_push, hacc, List.map_append]; rfl) (by rw [List.length_append, hal]; rfl) ⟨?_, ?_, ?_⟩ ?_⟩)
      (by rw [hsz, sizeLine_eq]; omega) (by show (acc.push (Value.ref h.objs.size)).size ≤ sizeLine + 1; rw [Array.size_push, hsz, sizeLine_eq]; omega)
    · refine List.pairwise_append.mpr ⟨hG.rise, List.pairwise_singleton _ _, fun a ha b hb => ?_⟩
      rw [List.mem_singleton.mp hb]
      exact hG.there ha
    · intro a ha
      rcases List.mem_append.mp ha with ha | ha
      · exact hG.above a ha
      · rw [List.mem_singleton.mp ha]; exact hIs
    · intro j b hj
      rcases Nat.lt_trichotomy j as.length with g1 | g1 | g1
      · rw [List.getElem?_append_left g1] at hj
        obtain ⟨x', y', e1, e2, e3⟩ := hG.pairs j b hj
        obtain ⟨n1, n2, n3, n4, n5⟩ := off (hG.above b (List.mem_of_getElem? hj))
        exact ⟨x', y', e1, e2, up b _ n1 (hkp b _ n2 n3 n4 n5 e3)⟩
      · subst g1
        have hb : h.objs.size = b := by simpa using hj
        subst hb
        exact ⟨x, y, by rw [hal]; exact hx, by rw [hal]; exact hy, up _ _ (Nat.ne_of_gt hSl) ht⟩
      · have hnone : (as ++ [h.objs.size])[j]? = none := List.getElem?_eq_none (by rw [List.length_append, List.length_singleton]; omega)
        rw [hnone] at hj; cases hj
    · have e : (h'.update S (Obj.mapSeq (·.push (Value.ref h.objs.size)))).get? h.objs.size = _ := up _ _ (Nat.ne_of_gt hSl) ht
      exact Nat.lt_trans hIs (Heap.lt_size e)
theorem zip_nolen : typeLookup (.type "zip") "__len__" = pure none := by rw [typeLookup_type, builtinLookup_eq_fast]; kernel_rfl
theorem zip_nohint : typeLookup (.type "zip") "__length_hint__" = pure none := by rw [typeLookup_type, builtinLookup_eq_fast]; kernel_rfl
theorem hint (hT : s.TypeIs (.ref z) "zip") {Q : Bool → Shared → Prop} (h : ∀ b, Q b s) : wpAny (model prog w) A (Builtin.List.listLengthHint (.ref z)) Q E s := by
  unfold Builtin.List.listLengthHint
  refine wpAny_bind (wpAny_specialOf hT zip_nolen ?_)
  show wpAny _ A (specialOf (Value.ref z) (Str.ofString "__length_hint__") >>= _) _ _ _
  refine wpAny_bind (wpAny_specialOf hT zip_nohint ?_)
  exact wpAny_pure (h _)
theorem extend {R : Result → Shared → Prop} (hh : A.handled = none) (D : ZipApart z TI TO i1 i2 l1 l2) (O : Off S z TI TO i1 i2 l1 l2) (hlo : z ≤ S ∧ TO ≤ S ∧ i1 ≤ S ∧ i2 ≤ S) (hxy : xs.size = ys.size) (hn : xs.size ≤ 1000) (res : Value) (c₀ : Nat)
    (st : St xs ys S z TI TO i1 i2 l1 l2 s.heap 0) (hz : IsZip s.heap z TI TO .none) (hS : s.heap.get? S = some { cls := .type "list", data := .seq #[] c₀ }) (hSz : S < s.heap.objs.size)
    (hR : ∀ h' tk acc c as, Kept S z TO i1 i2 s.heap h' → h'.get? S = some { cls := .type "list", dict := none, data := .seq acc c, slots := #[] } → as.length = xs.size → Gp xs ys S h' as →
      acc.toList = as.map Value.ref → R (.ok (.ret res)) { s with heap := h', toks := tk }) :
    wpAny (model prog w) A.in1 (Builtin.List.listExtendWith (.ref S) (.ref z) res)
      (fun fin s' => match fin with | .done f => R (.ok f) s' | .again c' => c'.quiet = true ∧ codeAny (model prog w) A c' R s') (fun e s' => R (.error e) s') s := by
  have hT : s.TypeIs (.ref z) "zip" := ⟨_, hz, rfl⟩
  have key : ∀ (h : Heap) (c₁ tk : Nat), (∀ b o, b ≠ S → s.heap.get? b = some o → h.get? b = some o) → h.get? S = some { cls := .type "list", data := .seq #[] c₁ } → codeAny (model prog w) A (.builtin "list.extend.loop" ⟨[.ref S, .ref z, res], []⟩) R { s with heap := h, toks := tk } := by
    intro h c₁ tk hk hS₁
    refine loop (s := s) (lo := S) (h₁ := s.heap) hh D O ⟨Nat.le_refl _, hlo⟩ hxy hn res hR xs.size 0 h tk c₁ #[] [] (Nat.sub_zero _) (Nat.zero_le _) (st.keep O hk) (fun b o hb _ _ _ _ e => hk b o hb e) hS₁ rfl rfl
      ⟨List.Pairwise.nil, (fun _ ha => nomatch ha), (fun j a hj => by simp at hj)⟩ (Heap.lt_size hS₁)
  unfold Builtin.List.listExtendWith
  refine wpAny_bind (wpAny_typeOf hT ?_)
  have b1 : Builtin.List.listSameRef (.ref S) (.ref z) = false := by simp [Builtin.List.listSameRef, O.z]
  have b2 : (Value.type "zip" == Value.type "list") = false := by decide
  have b3 : (Value.type "zip" == Value.type "tuple") = false := by decide
  simp only [b1, b2, b3, Bool.or_false, Bool.false_eq_true, if_false]
  refine wpAny_bind (wpAny_pyIter_zip hz ?_)
  refine wpAny_bind (wpAny_holding (hint hT fun b => ?_))
  refine wpAny_ite_split (fun _ => ?_) (fun _ => wpAny_pure ⟨plainId_quiet PySem.F.plain_extend_loop _, key _ c₀ _ (fun b o _ e => e) hS⟩)
  refine wpAny_bind (wpAny_rule (wpAny_bind ?_))
  show wpAny _ _ (updateSeq S (·.push .none) >>= fun _ => updateSeq S (·.pop)) _ _ _
  refine wpAny_bind (wpAny_updateSeq hS rfl ?_)
  have e2 := Heap.get?_update_self (Obj.mapSeq (·.push Value.none)) hS rfl
  refine wpAny_updateSeq (hz := by seq_fits) e2 rfl ?_
  have e3 := Heap.get?_update_self (Obj.mapSeq (·.pop)) e2 rfl
  exact wpAny_pure ⟨plainId_quiet PySem.F.plain_extend_loop _, key _ _ _ (fun b o hb e => (Heap.get?_update_other _ _ (Ne.symm hb)).trans ((Heap.get?_update_other _ _ (Ne.symm hb)).trans e)) e3⟩
theorem call_list {Q : Value → Shared → Prop} (hh : A.handled = none) (D : ZipApart z TI TO i1 i2 l1 l2) (hxy : xs.size = ys.size) (hn : xs.size ≤ 1000)
    (ti : IsPair s.heap TI (.ref i1) (.ref i2)) (j1 : s.heap.IsTupleIter i1 l1 0) (j2 : s.heap.IsTupleIter i2 l2 0) (t1 : s.heap.IsTuple l1 xs) (t2 : s.heap.IsTuple l2 ys) (hz : IsZip s.heap z TI TO .none) {a b : Value} (to : IsPair s.heap TO a b)
    (hQ : ∀ h' tk acc c as, (∀ b o, b ≠ z → b ≠ TO → b ≠ i1 → b ≠ i2 → s.heap.get? b = some o → h'.get? b = some o) → h'.get? s.heap.objs.size = some { cls := .type "list", dict := none, data := .seq acc c, slots := #[] } → as.length = xs.size → Gp xs ys s.heap.objs.size h' as →
      acc.toList = as.map Value.ref → Q (.ref s.heap.objs.size) { s with heap := h', toks := tk }) : wpAny (model prog w) A (call (.type "list") [.ref z]) Q E s := by
  refine callType_codes (Q₁ := fun obj s₁ => obj = .ref s.heap.objs.size ∧ s₁ = { s with heap := s.heap.push { cls := .type "list", data := .seq #[] } }) PySem.F.called_list (PySem.F.typeCall_list_1 _) PySem.F.entry_list_init
    (code_list_new _ ⟨rfl, rfl⟩) fun obj s₁ h₁ => ?_
  obtain ⟨rfl, rfl⟩ := h₁
  have hS : (s.heap.push { cls := .type "list", data := .seq #[] }).get? s.heap.objs.size = some { cls := .type "list", data := .seq #[] } := Heap.get?_push_size _ rfl
  have lt : ∀ {c : Addr} {o : Obj}, s.heap.get? c = some o → c < s.heap.objs.size := fun e => Heap.lt_size e
  have n1 : i1 < s.heap.objs.size := let ⟨_, e, _⟩ := j1; lt e
  have n2 : i2 < s.heap.objs.size := let ⟨_, e, _⟩ := j2; lt e
  have n3 : l1 < s.heap.objs.size := let ⟨_, e, _⟩ := t1; lt e
  have n4 : l2 < s.heap.objs.size := let ⟨_, e, _⟩ := t2; lt e
  have O : Off s.heap.objs.size z TI TO i1 i2 l1 l2 := ⟨Nat.ne_of_gt (lt hz), Nat.ne_of_gt (lt ti), Nat.ne_of_gt (lt to), Nat.ne_of_gt n1, Nat.ne_of_gt n2, Nat.ne_of_gt n3, Nat.ne_of_gt n4⟩
  refine ⟨⟨_, hS, rfl⟩, PySem.F.args_list_init_2 _ _, ?_⟩
  show wpAny _ _ (do let old ← Builtin.List.listItems (.ref s.heap.objs.size); Builtin.List.listUpdate (.ref s.heap.objs.size) (fun _ => #[]); letGo old.toList.reverse; Builtin.List.listExtendWith (.ref s.heap.objs.size) (.ref z) .none) _ _ _
  refine wpAny_bind ?_
  unfold Builtin.List.listItems
  refine wpAny_bind (wpAny_seqItems hS rfl (wpAny_pure ?_))
  show wpAny _ _ (updateSeq s.heap.objs.size (fun _ => #[]) >>= fun _ => letGo (#[] : Array Value).toList.reverse >>= fun _ => Builtin.List.listExtendWith (.ref s.heap.objs.size) (.ref z) .none) _ _ _
  refine wpAny_bind (wpAny_updateSeq hS rfl ?_)
  have hS₂ := Heap.get?_update_self (Obj.mapSeq (fun _ => (#[] : Array Value))) hS rfl
  have oth : ∀ b o, s.heap.get? b = some o → ((s.heap.push { cls := .type "list", data := .seq #[] }).update s.heap.objs.size (Obj.mapSeq (fun _ => (#[] : Array Value)))).get? b = some o :=
    fun b o e => (Heap.get?_update_other _ _ (Nat.ne_of_gt (lt e))).trans (Heap.get?_push_of_some _ e)
  refine wpAny_bind (wpAny_letGo ?_)
  refine extend (A := A.in1) hh D O ⟨Nat.le_of_lt (lt hz), Nat.le_of_lt (lt to), Nat.le_of_lt n1, Nat.le_of_lt n2⟩ hxy hn .none _ ⟨oth _ _ ti, j1.at fun o e => oth _ o e, j2.at fun o e => oth _ o e, t1.at fun o e => oth _ o e, t2.at fun o e => oth _ o e, .inl ⟨oth _ _ hz, _, _, oth _ _ to⟩⟩ (oth _ _ hz) hS₂ (Heap.lt_size hS₂) (fun h' tk acc c as hk hS' hl hG hacc => ?_)
  exact ⟨rfl, hQ h' tk acc c as (fun b o h1 h2 h3 h4 e => hk b o (Nat.ne_of_lt (lt e)) h1 h2 h3 h4 (oth b o e)) hS' hl hG hacc⟩
end
end ZL

/-! ### the rule -/
def putP (H : Hp) (as : List Addr) (ps : List (V × V)) : Hp := fun b => match (as.zip ps).lookup b with | some p => some (.tup [p.1, p.2]) | none => H b
theorem lookup_off {b : Addr} : ∀ {as : List Addr} {ps : List (V × V)}, b ∉ as → (as.zip ps).lookup b = none
  | [], _, _ => rfl
  | _ :: _, [], _ => rfl
  | a :: as, p :: ps, h => by
    have e : (b == a) = false := by simpa using fun z => h (by rw [z]; exact List.mem_cons_self)
    rw [List.zip_cons_cons, List.lookup, e]
    exact lookup_off fun z => h (List.mem_cons_of_mem _ z)
theorem lookup_at : ∀ {as : List Addr} {ps : List (V × V)} {j : Nat} {a : Addr} {p : V × V}, as.Nodup → as[j]? = some a → ps[j]? = some p → (as.zip ps).lookup a = some p
  | [], _, _, _, _, _, h, _ => by simp at h
  | _ :: _, [], _, _, _, _, _, h => by simp at h
  | b :: as, q :: ps, 0, a, p, _, h1, h2 => by
    cases h1
    cases h2
    rw [List.zip_cons_cons, List.lookup, beq_self_eq_true]
  | b :: as, q :: ps, j + 1, a, p, hn, h1, h2 => by
    have hn' := List.nodup_cons.mp hn
    have h1' : as[j]? = some a := h1
    have e : (a == b) = false := by simpa using fun z : a = b => hn'.1 (z ▸ List.mem_of_getElem? h1')
    rw [List.zip_cons_cons, List.lookup, e]
    exact lookup_at hn'.2 h1' h2
theorem vals_refs' : ∀ as : List Addr, Vals (as.map V.ref) (as.map Value.ref)
  | [] => .nil
  | _ :: as => .cons rfl (vals_refs' as)
theorem zip_laid {X : Cx} {pins : List (Addr × Obj)} {σ : L2.St} {H : Hp} {s : Shared} {h' : Heap} {tk : Nat} {xs ys : List V} {us ws : List Value} {acc : Array Value} {c : Nat} {S : Addr} {as : List Addr} (I : Inv X pins σ H s) (rx : Vals xs us) (ry : Vals ys ws) (hn : xs.length ≤ 900)
    (hk : ∀ b o, s.heap.get? b = some o → h'.get? b = some o) (hSz : s.heap.objs.size ≤ S) (hS : h'.get? S = some { cls := .type "list", dict := none, data := .seq acc c, slots := #[] }) (hl : as.length = xs.length) (hG : ZL.Gp us.toArray ws.toArray S h' as) (hacc : acc.toList = as.map Value.ref) :
    Inv X pins σ (upd (putP H as (xs.zip ys)) S (.lst (as.map V.ref))) { s with heap := h', toks := tk } ∧ Same H (upd (putP H as (xs.zip ys)) S (.lst (as.map V.ref))) ∧ (∀ (j : Nat) (a : Addr) (x y : V), as[j]? = some a → xs[j]? = some x → ys[j]? = some y → upd (putP H as (xs.zip ys)) S (.lst (as.map V.ref)) a = some (.tup [x, y])) := by
  have nd : as.Nodup := List.Pairwise.imp (fun {a b} (h : a < b) => Nat.ne_of_lt h) hG.rise
  have new : ∀ t ∈ as, H t = none := fun t ht => I.hok.fresh (Nat.le_of_lt (Nat.lt_of_le_of_lt hSz (hG.above t ht)))
  have newS : H S = none := I.hok.fresh hSz
  have hSn : S ∉ as := fun z => Nat.lt_irrefl _ (hG.above _ z)
  have off : ∀ b, b ∉ as → b ≠ S → upd (putP H as (xs.zip ys)) S (.lst (as.map V.ref)) b = H b := fun b h1 h2 => by rw [upd_ne h2]; unfold putP; rw [lookup_off h1]
  have kp : ∀ b u, H b = some u → upd (putP H as (xs.zip ys)) S (.lst (as.map V.ref)) b = some u := fun b u e => by
    rw [off b (fun z => by rw [new b z] at e; cases e) (fun z => by rw [z, newS] at e; cases e)]
    exact e
  have at' : ∀ (j : Nat) (a : Addr) (x y : V), as[j]? = some a → xs[j]? = some x → ys[j]? = some y → upd (putP H as (xs.zip ys)) S (.lst (as.map V.ref)) a = some (.tup [x, y]) := fun j a x y h1 h2 h3 => by
    have ne : a ≠ S := fun z => hSn (z ▸ List.mem_of_getElem? h1)
    have hz : (xs.zip ys)[j]? = some (x, y) := by rw [List.getElem?_zip_eq_some]; exact ⟨h2, h3⟩
    rw [upd_ne ne]
    unfold putP
    rw [lookup_at nd h1 hz]
  refine ⟨?_, kp, at'⟩
  refine I.call' (ch := []) rfl ⟨fun b o q _ _ _ => hk b o q, fun b o q _ _ _ => ⟨o.slots, hk b o q⟩, fun b o q n _ => ?_, fun b o q _ => ⟨o, hk b o q⟩, fun b xs q => kp b _ q, fun b o u q => kp b _ q, fun b ps q => ⟨#[], by rw [kp b _ q]; simp⟩⟩ (fun b u q => ?_) I.bare fun b z => by simp at z
  · have lb := Heap.lt_size q
    rw [off b (fun z => absurd lb (Nat.not_lt.mpr (Nat.le_of_lt (Nat.lt_of_le_of_lt hSz (hG.above b z))))) (Nat.ne_of_lt (Nat.lt_of_lt_of_le lb hSz))]
    exact n
  · by_cases hb : b ∈ as
    · obtain ⟨j, hj⟩ := List.mem_iff_getElem?.mp hb
      obtain ⟨vx, vy, e1, e2, e3⟩ := hG.pairs j b hj
      rw [List.getElem?_toArray] at e1 e2
      obtain ⟨x, g1, r1⟩ : ∃ x, xs[j]? = some x ∧ RelV x vx := by
        have hj1 : j < xs.length := by rw [rx.length]; exact (List.getElem?_eq_some_iff.mp e1).1
        obtain ⟨u, hu, ru⟩ := rx.get (List.getElem?_eq_getElem hj1)
        rw [e1] at hu
        cases hu
        exact ⟨_, List.getElem?_eq_getElem hj1, ru⟩
      obtain ⟨y, g2, r2⟩ : ∃ y, ys[j]? = some y ∧ RelV y vy := by
        have hj1 : j < ys.length := by rw [ry.length]; exact (List.getElem?_eq_some_iff.mp e2).1
        obtain ⟨u, hu, ru⟩ := ry.get (List.getElem?_eq_getElem hj1)
        rw [e2] at hu
        cases hu
        exact ⟨_, List.getElem?_eq_getElem hj1, ru⟩
      rw [at' j b x y hj g1 g2] at q
      cases q
      exact ⟨by show 2 ≤ sizeLine; decide, [vx, vy], .cons r1 (.cons r2 .nil), ⟨_, e3, rfl, _, rfl⟩⟩
    · by_cases hb2 : b = S
      · rw [hb2] at q ⊢
        rw [upd_same] at q
        cases q
        refine ⟨by rw [List.length_map, hl, sizeLine_eq]; omega, acc.toList, c, by rw [hacc]; exact vals_refs' as, ?_⟩
        rw [Array.toArray_toList]
        exact hS
      · rw [off b hb hb2] at q
        exact (I.hok b u q).stay (fun d v _ y => hk d v y) (fun d y => kp d _ y) fun d xs y => kp d _ y
/-- list(zip(a, b)) of two tuples of one length -/
def rLZ (K : PySem.W.Frag) (Q : VK) : List V → Hp → Prop
  | [x, y], H2 => ∃ (l1 l2 : Addr) (xs ys : List V), x = .ref l1 ∧ y = .ref l2 ∧ SqT K H2 l1 xs ∧ SqT K H2 l2 ys ∧ xs.length = ys.length ∧ xs.length ≤ 900 ∧
    ∀ (S : Addr) (as : List Addr) (H' : Hp), H2 S = none → Same H2 H' → as.length = xs.length → H' S = some (.lst (as.map V.ref)) → (∀ (j : Nat) (a : Addr) (x y : V), as[j]? = some a → xs[j]? = some x → ys[j]? = some y → H' a = some (.tup [x, y])) → Q (.ref S) H'
  | _, _ => False
def tListZip (K : PySem.W.Frag) (t1 t2 : TE) : TE := fun σ H Q => t1 σ H fun x H1 => t2 σ H1 fun y H2 => rLZ K Q [x, y] H2
theorem pe_listZip {X : Cx} {e1 e2 : Expr} {t1 t2 : TE} {p p2 pos pos2 : Pos} (hc : X.calm = true) (h1 : PE X e1 t1) (h2 : PE X e2 t2) (hg : Gl X "list") (hm : X.mg "list" = none) (hg2 : Gl X "zip") (hm2 : X.mg "zip" = none)
    (hs : starEach [.Call (.Name "zip" p2) [e1, e2] [] pos2] X.env = (false, eval (.Call (.Name "zip" p2) [e1, e2] [] pos2) X.env) :: starEach [] X.env := by rfl)
    (hs1 : starEach [e1, e2] X.env = (false, eval e1 X.env) :: starEach [e2] X.env := by rfl) (hs2 : starEach [e2] X.env = (false, eval e2 X.env) :: starEach [] X.env := by rfl) (hpl : (backTo pos2 (starEach [e2] X.env)).any (·.1) = false := by rfl) :
    PE X (.Call (.Name "list" p) [.Call (.Name "zip" p2) [e1, e2] [] pos2] [] pos) (tListZip X.K t1 t2) := by
  refine ⟨fun pins s σ H Q I hq => ?_⟩
  refine wpAny_Call_Name_kw (ld_blt I hg hm (by first | boot_by_name | rfl | kernel_rfl) ?_)
  refine PyProof.Rows.callWith_type1 ?_ hs rfl
  rw [hs]
  show wpAny _ _ (spliced ((false, eval (.Call (.Name "zip" p2) [e1, e2] [] pos2) X.env) :: backTo pos (starEach [] X.env))) _ _ s
  refine Calls.spliced_cons ?_
  refine wpAny_Call_Name_kw (ld_blt I hg2 hm2 (by first | boot_by_name | rfl | kernel_rfl) ?_)
  refine PyProof.Rows.callWith_type1 ?_ hs1 hpl
  refine thn ((pa_cons h1 (pa_cons h2 pa_nil hs2) hs1).run pos2 pins s σ H (fun vs H2 => rLZ X.K Q vs H2) I hq) fun us s2 hu => ?_
  · obtain ⟨vs, H2, I2, r2, qq⟩ := hu
    obtain ⟨x, y, rfl⟩ : ∃ x y, vs = [x, y] := by
      match vs, qq with
      | [x, y], _ => exact ⟨x, y, rfl⟩
    obtain ⟨l1, l2, xs, ys, rfl, rfl, q1, q2, q3, q4, q5⟩ := qq
    obtain rfl : us = [Value.ref l1, Value.ref l2] := by
      cases r2 with
      | cons a b => cases b with
        | cons b c => cases c; cases a; cases b; rfl
    obtain ⟨i1, v1, T1, _⟩ := I2.tuple q1
    have T1 : s2.heap.IsTuple l1 i1.toArray := T1
    obtain ⟨i2, v2, T2, _⟩ := I2.tuple q2
    have T2 : s2.heap.IsTuple l2 i2.toArray := T2
    have L1 := v1.length
    have L2' := v2.length
    refine RZ.call_zipT T1 T2 fun h3 z1 z2 z3 z4 z5 z6 k3 => ?_
    refine Calls.spliced_nil ?_
    have b1 : l1 < s2.heap.objs.size := let ⟨_, e, _⟩ := T1; Heap.lt_size e
    have b2 : l2 < s2.heap.objs.size := let ⟨_, e, _⟩ := T2; Heap.lt_size e
    have D : ZipApart (s2.heap.objs.size + 4) (s2.heap.objs.size + 2) (s2.heap.objs.size + 3) s2.heap.objs.size (s2.heap.objs.size + 1) l1 l2 := by
      have b1 : @LT.lt Nat instLTNat l1 s2.heap.objs.size := b1
      have b2 : @LT.lt Nat instLTNat l2 s2.heap.objs.size := b2
      constructor <;> (intro z; have z : @Eq Nat _ _ := z; omega)
    refine ZL.call_list (xs := i1.toArray) (ys := i2.toArray) (s := { s2 with heap := h3 }) (I2.ok.hd hc) D (by rw [List.size_toArray, List.size_toArray]; omega) (by rw [List.size_toArray]; omega) z2 z4 z5 (T1.at fun o e => k3 _ o e) (T2.at fun o e => k3 _ o e) z1 z3 fun h' tk acc c as hk hS hl hG hacc => ?_
    have hk' : ∀ b o, s2.heap.get? b = some o → h'.get? b = some o := fun b o e => by
      have lb : @LT.lt Nat instLTNat b s2.heap.objs.size := Heap.lt_size e
      exact hk b o (fun z => by have z : @Eq Nat _ _ := z; omega) (fun z => by have z : @Eq Nat _ _ := z; omega) (fun z => by have z : @Eq Nat _ _ := z; omega) (fun z => by have z : @Eq Nat _ _ := z; omega) (k3 b o e)
    obtain ⟨J, sm, at'⟩ := zip_laid (tk := tk) I2 v1 v2 q4 hk' (by show s2.heap.objs.size ≤ h3.objs.size; omega) hS (by rw [hl]; simp [L1]) hG hacc
    exact ⟨.ref h3.objs.size, _, J, rfl, q5 _ as _ (I2.hok.fresh (by show s2.heap.objs.size ≤ h3.objs.size; omega)) sm (by rw [hl]; simp [L1]) upd_same at'⟩

/-! ### list.extend by a tuple -/
def rExtendT : V → List V → Hp → VK → Prop := fun x vs H Q => ∃ l b xs zs, x = .ref l ∧ vs = [.ref b] ∧ H l = some (.lst xs) ∧ H b = some (.tup zs) ∧ xs.length + zs.length ≤ 1000 ∧ Q .non (upd H l (.lst (xs ++ zs)))
theorem mt_extendT {X : Cx} : MtM X "list.extend" rExtendT := by
  intro pins s σ H x vs v us Q I rx rv h
  obtain ⟨l, b, xs, zs, rfl, rfl, hH, hB, hz, q⟩ := h
  cases rx
  obtain ⟨u, rfl, ru⟩ := rv.one
  cases ru
  obtain ⟨z, its, n, r, hl, e⟩ := I.lstM hH
  obtain ⟨its2, r2, ⟨o2, e2, c2, n2, d2⟩, _⟩ := I.tuple (SqT.of hB)
  have hl2 := r2.length
  have hs : sizeLine = 1152921504606846975 ∨ 2000 ≤ sizeLine := .inr (by decide)
  have h2000 : 2000 ≤ sizeLine := by decide
  have hT : s.TypeIs (.ref b) "tuple" := ⟨o2, e2, c2⟩
  refine wpAny_call_entry F.slot_list_extend ⟨_, e, rfl⟩ F.entry_list_extend ?_ (F.args_list_extend_2 _ _)
  unfold Builtin.«list.extend»
  refine wpAny_bind (wpAny_of_eq (a := ((Value.ref l : Value), (Value.ref b : Value))) (by first | rfl | kernel_rfl) ?_)
  show wpAny _ _ (Builtin.List.listExtendWith (.ref l) (.ref b) .none) _ _ _
  unfold Builtin.List.listExtendWith
  refine wpAny_bind (wpAny_typeOf hT ?_)
  rw [if_pos (by simp)]
  refine wpAny_bind ?_
  unfold Builtin.List.listItems
  refine wpAny_bind (wpAny_seqItems e2 d2 (wpAny_pure ?_))
  refine wpAny_bind (wpAny_bind (wpAny_seqItems e rfl (wpAny_pure ?_)))
  have hlong : ¬ (!its.toArray.isEmpty && Builtin.List.listTooLong (its.toArray.size + its2.toArray.size)) = true := by
    rw [notLongL (by rw [List.size_toArray, List.size_toArray]; omega), Bool.and_false]
    exact Bool.false_ne_true
  rw [if_neg hlong]
  show wpAny _ _ (updateSeq l (· ++ its2.toArray) >>= fun _ => ret .none) _ _ _
  refine wpAny_bind (wpAny_updateSeq e rfl ?_ (by rw [List.size_toArray]; omega) (by rw [Array.size_append, List.size_toArray, List.size_toArray]; omega))
  exact wpAny_pure ⟨_, rfl, .non, _, I.lset (its' := its ++ its2) hH e (by simp) (r.append r2) (by rw [List.length_append]; omega), rfl, q⟩
/-! ### texts as data -/
mutual
/-- a value and its data: None, ints, texts, tuples of such -/
inductive Td (H : Hp) : V → PyData → Prop
  | non : Td H .non .none
  | int (i : Int) : Td H (.int i) (.int i)
  | str (x : Str) : PyData.strOk x = true → Td H (.str x) (.str x)
  | tup {a : Addr} {vs : List V} {ds : List PyData} : H a = some (.tup vs) → TdAll H vs ds → Td H (.ref a) (.tuple ds)
inductive TdAll (H : Hp) : List V → List PyData → Prop
  | nil : TdAll H [] []
  | cons {v : V} {vs : List V} {d : PyData} {ds : List PyData} : Td H v d → TdAll H vs ds → TdAll H (v :: vs) (d :: ds)
end
def TKeep (H H' : Hp) : Prop := ∀ b vs, H b = some (.tup vs) → H' b = some (.tup vs)
theorem TKeep.refl (H : Hp) : TKeep H H := fun _ _ h => h
theorem TKeep.trans {H H1 H2 : Hp} (x : TKeep H H1) (y : TKeep H1 H2) : TKeep H H2 := fun b vs h => y b vs (x b vs h)
theorem sameTk {H H' : Hp} (x : Same H H') : TKeep H H' := fun b vs h => x b _ h
theorem TKeep.upd {H : Hp} {a : Addr} {o : HO} {ys : List V} (h : H a = some (.lst ys)) : TKeep H (upd H a o) := fun b vs e => by
  rw [upd_ne (fun z => by rw [z, h] at e; cases e)]; exact e
mutual
theorem Td.keep {H H' : Hp} (k : TKeep H H') : ∀ {d : PyData} {v : V}, Td H v d → Td H' v d
  | _, _, .non => .non
  | _, _, .int i => .int i
  | _, _, .str x h => .str x h
  | _, _, .tup h t => .tup (k _ _ h) (TdAll.keep k t)
theorem TdAll.keep {H H' : Hp} (k : TKeep H H') : ∀ {ds : List PyData} {vs : List V}, TdAll H vs ds → TdAll H' vs ds
  | _, _, .nil => .nil
  | _, _, .cons h t => .cons (Td.keep k h) (TdAll.keep k t)
end
mutual
theorem Td.dp {K : PySem.W.Frag} {H : Hp} : ∀ {d : PyData} {v : V}, Td H v d → Dp K H v d
  | _, _, .non => .non
  | _, _, .int i => .int i
  | _, _, .str x _ => .str x
  | _, _, .tup h t => .tup (SqT.of h) (TdAll.dp t)
theorem TdAll.dp {K : PySem.W.Frag} {H : Hp} : ∀ {ds : List PyData} {vs : List V}, TdAll H vs ds → DpAll K H vs ds
  | _, _, .nil => .nil
  | _, _, .cons h t => .cons (Td.dp h) (TdAll.dp t)
end
mutual
theorem Td.lay {H : Hp} : ∀ {d : PyData} {v : V}, Td H v d → d.canLay0 = true
  | _, _, .non => rfl
  | _, _, .int i => rfl
  | _, _, .str x h => by simpa [PyData.canLay0] using h
  | _, _, .tup h t => by simpa [PyData.canLay0] using TdAll.lay t
theorem TdAll.lay {H : Hp} : ∀ {ds : List PyData} {vs : List V}, TdAll H vs ds → PyData.canLayAll0 ds = true
  | _, _, .nil => rfl
  | _, _, .cons h t => by simp [PyData.canLayAll0, Td.lay h, TdAll.lay t]
end
theorem Td.shaped {H : Hp} {d : PyData} {v : V} (h : Td H v d) (n : d.depth ≤ 64) : SeqAt.shaped d = true := by
  simp only [SeqAt.shaped, h.lay, Bool.true_and]
  exact decide_eq_true n
theorem TdAll.length {H : Hp} : ∀ {ds : List PyData} {vs : List V}, TdAll H vs ds → vs.length = ds.length
  | _, _, .nil => rfl
  | _, _, .cons _ t => congrArg (· + 1) (TdAll.length t)
theorem TdAll.get {H : Hp} : ∀ {ds : List PyData} {vs : List V}, TdAll H vs ds → ∀ {i : Nat} {v : V}, vs[i]? = some v → ∃ d, ds[i]? = some d ∧ Td H v d
  | _, _, .nil, i, v, h => by simp at h
  | _, _, .cons h t, 0, v, e => by cases e; exact ⟨_, rfl, h⟩
  | _, _, .cons h t, i + 1, v, e => TdAll.get t e
theorem TdAll.app {H : Hp} : ∀ {ds es : List PyData} {vs ws : List V}, TdAll H vs ds → TdAll H ws es → TdAll H (vs ++ ws) (ds ++ es)
  | _, _, _, _, .nil, y => y
  | _, _, _, _, .cons h t, y => .cons h (TdAll.app t y)
theorem TdAll.snoc {H : Hp} : ∀ {ds : List PyData} {vs : List V} {d : PyData}, TdAll H vs (ds ++ [d]) → ∃ (ws : List V) (v : V), vs = ws ++ [v] ∧ TdAll H ws ds ∧ Td H v d
  | [], _, _, .cons h .nil => ⟨[], _, rfl, .nil, h⟩
  | _ :: _, _, _, .cons h t => by
    obtain ⟨ws, v, e, x, y⟩ := TdAll.snoc t
    exact ⟨_ :: ws, v, by rw [e]; rfl, .cons h x, y⟩
mutual
/-- the number of parts -/
def nd : PyData → Nat
  | .tuple ds => ndAll ds + 1
  | _ => 1
def ndAll : List PyData → Nat
  | [] => 0
  | d :: ds => nd d + ndAll ds
end
theorem nd_pos (d : PyData) : 1 ≤ nd d := by
  cases d <;> simp [nd]
theorem ndAll_app : ∀ ds es : List PyData, ndAll (ds ++ es) = ndAll ds + ndAll es
  | [], _ => by simp [ndAll]
  | d :: ds, es => by simp [ndAll, ndAll_app ds es, Nat.add_assoc]
mutual
/-- a text's signs -/
def spell : PyData → List Item
  | .int i => [.inl (.inl i)]
  | .str x => [.inl (.inr x)]
  | .tuple ds => .inr [(ds.length : Int)] :: spellR ds
  | _ => []
def spellR : List PyData → List Item
  | [] => []
  | d :: ds => spellR ds ++ spell d
end
theorem spellR_app : ∀ ds es : List PyData, spellR (ds ++ es) = spellR es ++ spellR ds
  | [], es => by simp [spellR]
  | d :: ds, es => by simp [spellR, spellR_app ds es]
mutual
/-- a text: ints, texts, tuples of such -/
def txt : PyData → Bool
  | .int _ | .str _ => true
  | .tuple ds => txtAll ds
  | _ => false
def txtAll : List PyData → Bool
  | [] => true
  | d :: ds => txt d && txtAll ds
end
theorem txtAll_app : ∀ ds es : List PyData, txtAll (ds ++ es) = (txtAll ds && txtAll es)
  | [], _ => by simp [txtAll]
  | d :: ds, es => by simp [txtAll, txtAll_app ds es, Bool.and_assoc]
mutual
theorem spell_inj : ∀ (d e : PyData) (r r' : List Item), txt d = true → txt e = true → spell d ++ r = spell e ++ r' → d = e ∧ r = r'
  | .int i, e, r, r', _, he, h => by
    cases e <;> simp_all [spell, txt]
  | .str x, e, r, r', _, he, h => by
    cases e <;> simp_all [spell, txt]
  | .tuple ds, e, r, r', hd, he, h => by
    cases e with
    | tuple es =>
      simp only [spell, List.cons_append, List.cons.injEq, Sum.inr.injEq, and_true] at h
      have hl : ds.length = es.length := by have := h.1; omega
      obtain ⟨h1, h2⟩ := spellR_inj ds es r r' hd he hl h.2
      exact ⟨by rw [h1], h2⟩
    | int j => simp [spell] at h
    | str y => simp [spell] at h
    | none => simp [txt] at he
    | bool b => simp [txt] at he
    | list l => simp [txt] at he
    | dict k => simp [txt] at he
  | .none, _, _, _, hd, _, _ => by simp [txt] at hd
  | .bool _, _, _, _, hd, _, _ => by simp [txt] at hd
  | .list _, _, _, _, hd, _, _ => by simp [txt] at hd
  | .dict _, _, _, _, hd, _, _ => by simp [txt] at hd
theorem spellR_inj : ∀ (ds es : List PyData) (r r' : List Item), txtAll ds = true → txtAll es = true → ds.length = es.length → spellR ds ++ r = spellR es ++ r' → ds = es ∧ r = r'
  | [], [], r, r', _, _, _, h => ⟨rfl, by simpa [spellR] using h⟩
  | [], _ :: _, _, _, _, _, h, _ => by simp at h
  | _ :: _, [], _, _, _, _, h, _ => by simp at h
  | d :: ds, e :: es, r, r', hd, he, hl, h => by
    have hd' : txt d = true ∧ txtAll ds = true := by simpa [txtAll] using hd
    have he' : txt e = true ∧ txtAll es = true := by simpa [txtAll] using he
    simp only [spellR, List.append_assoc] at h
    obtain ⟨h1, h2⟩ := spellR_inj ds es (spell d ++ r) (spell e ++ r') hd'.2 he'.2 (Nat.succ.inj hl) h
    obtain ⟨h3, h4⟩ := spell_inj d e r r' hd'.1 he'.1 h2
    exact ⟨by rw [h1, h3], h4⟩
end
mutual
theorem eqv_txt {H : Hp} : ∀ {d e : PyData} {v : V}, Td H v d → txt e = true → (PyData.eqv d e = true ↔ d = e)
  | .none, e, _, _, he => by cases e <;> simp_all [PyData.eqv, txt]
  | .int i, e, _, _, he => by cases e <;> simp_all [PyData.eqv, txt]
  | .str x, e, _, _, he => by cases e <;> simp_all [PyData.eqv, txt]
  | .tuple ds, e, _, h, he => by
    cases h with
    | tup _ t =>
      cases e with
      | tuple es =>
        have := eqvAll_txt t (show txtAll es = true from he)
        simpa [PyData.eqv] using this
      | int j => simp [PyData.eqv]
      | str y => simp [PyData.eqv]
      | none => simp [txt] at he
      | bool b => simp [txt] at he
      | list l => simp [txt] at he
      | dict k => simp [txt] at he
theorem eqvAll_txt {H : Hp} : ∀ {ds es : List PyData} {vs : List V}, TdAll H vs ds → txtAll es = true → (PyData.eqvAll ds es = true ↔ ds = es)
  | [], [], _, _, _ => by simp [PyData.eqvAll]
  | [], _ :: _, _, _, _ => by simp [PyData.eqvAll]
  | _ :: _, [], _, _, _ => by simp [PyData.eqvAll]
  | d :: ds, e :: es, _, .cons h t, he => by
    have he' : txt e = true ∧ txtAll es = true := by simpa [txtAll] using he
    have h1 := eqv_txt h he'.1
    have h2 := eqvAll_txt t he'.2
    simp [PyData.eqvAll, h1, h2]
end

def top (i : Nat) : Stmt := PySem.Challenge.pw_caisson_k03_the_sealer.main.body.getD i (.Pass ⟨0, 0, 0, 0⟩)
abbrev s_spelled : Stmt := top 1
abbrev s_is_same : Stmt := top 2
abbrev s_Sealer___init__ : Stmt := inClass (top 3) 0
abbrev s_Sealer_mark : Stmt := inClass (top 3) 1
abbrev s_Sealer_knows : Stmt := inClass (top 3) 2
abbrev s__law_state : Stmt := top 5
abbrev s__law_draw : Stmt := top 6
abbrev s__law_text : Stmt := top 7
abbrev s_law : Stmt := top 8
abbrev n_spelled : List Str := ["text", "signs", "waiting", "part"]
abbrev p_spelled : List Str := ["text"]
theorem sc_spelled : FnScope n_spelled p_spelled (defScope s_spelled) := ⟨rfl, rfl, rfl, by decide +kernel, rfl, by decide +kernel, by decide +kernel⟩
abbrev n_is_same : List Str := ["answer", "text", "waiting", "left", "right"]
abbrev p_is_same : List Str := ["answer", "text"]
theorem sc_is_same : FnScope n_is_same p_is_same (defScope s_is_same) := ⟨rfl, rfl, rfl, by decide +kernel, rfl, by decide +kernel, by decide +kernel⟩
abbrev n_Sealer___init__ : List Str := ["self"]
abbrev p_Sealer___init__ : List Str := ["self"]
theorem sc_Sealer___init__ : FnScope n_Sealer___init__ p_Sealer___init__ (defScope s_Sealer___init__) := ⟨rfl, rfl, rfl, by decide +kernel, rfl, by decide +kernel, by decide +kernel⟩
abbrev n_Sealer_mark : List Str := ["self", "text", "key"]
abbrev p_Sealer_mark : List Str := ["self", "text"]
theorem sc_Sealer_mark : FnScope n_Sealer_mark p_Sealer_mark (defScope s_Sealer_mark) := ⟨rfl, rfl, rfl, by decide +kernel, rfl, by decide +kernel, by decide +kernel⟩
abbrev n_Sealer_knows : List Str := ["self", "text", "mark"]
abbrev p_Sealer_knows : List Str := ["self", "text", "mark"]
theorem sc_Sealer_knows : FnScope n_Sealer_knows p_Sealer_knows (defScope s_Sealer_knows) := ⟨rfl, rfl, rfl, by decide +kernel, rfl, by decide +kernel, by decide +kernel⟩
abbrev n__law_state : List Str := ["script", "seed", "cell"]
abbrev p__law_state : List Str := ["script"]
theorem sc__law_state : FnScope n__law_state p__law_state (defScope s__law_state) := ⟨rfl, rfl, rfl, by decide +kernel, rfl, by decide +kernel, by decide +kernel⟩
abbrev n__law_draw : List Str := ["state", "many", "cells", "value", "mixed"]
abbrev p__law_draw : List Str := ["state", "many"]
theorem sc__law_draw : FnScope n__law_draw p__law_draw (defScope s__law_draw) := ⟨rfl, rfl, rfl, by decide +kernel, rfl, by decide +kernel, by decide +kernel⟩
abbrev n__law_text : List Str := ["state", "many", "row", "k", "kind"]
abbrev p__law_text : List Str := ["state", "many"]
theorem sc__law_text : FnScope n__law_text p__law_text (defScope s__law_text) := ⟨rfl, rfl, rfl, by decide +kernel, rfl, by decide +kernel, by decide +kernel⟩
abbrev n_law : List Str := ["script", "state", "sealer", "other", "texts", "k", "text", "due", "mark", "told", "answer"]
abbrev p_law : List Str := ["script"]
theorem sc_law : FnScope n_law p_law (defScope s_law) := ⟨rfl, rfl, rfl, by decide +kernel, rfl, by decide +kernel, by decide +kernel⟩
structure Txt (K : PySem.W.Frag) (mg : Str → Option Value) where
  f_spelled : Addr
  d_spelled : FuncData
  F_spelled : Fun K "spelled" "spelled" s_spelled f_spelled d_spelled
  b_spelled : Binds K d_spelled p_spelled []
  mg_spelled : mg "spelled" = some (.ref f_spelled)
  f_is_same : Addr
  d_is_same : FuncData
  F_is_same : Fun K "is_same" "is_same" s_is_same f_is_same d_is_same
  b_is_same : Binds K d_is_same p_is_same []
  mg_is_same : mg "is_same" = some (.ref f_is_same)
  f_Sealer___init__ : Addr
  d_Sealer___init__ : FuncData
  F_Sealer___init__ : Fun K "__init__" "Sealer.__init__" s_Sealer___init__ f_Sealer___init__ d_Sealer___init__
  b_Sealer___init__ : Binds K d_Sealer___init__ p_Sealer___init__ []
  f_Sealer_mark : Addr
  d_Sealer_mark : FuncData
  F_Sealer_mark : Fun K "mark" "Sealer.mark" s_Sealer_mark f_Sealer_mark d_Sealer_mark
  b_Sealer_mark : Binds K d_Sealer_mark p_Sealer_mark []
  f_Sealer_knows : Addr
  d_Sealer_knows : FuncData
  F_Sealer_knows : Fun K "knows" "Sealer.knows" s_Sealer_knows f_Sealer_knows d_Sealer_knows
  b_Sealer_knows : Binds K d_Sealer_knows p_Sealer_knows []
  f__law_state : Addr
  d__law_state : FuncData
  F__law_state : Fun K "_law_state" "_law_state" s__law_state f__law_state d__law_state
  b__law_state : Binds K d__law_state p__law_state []
  mg__law_state : mg "_law_state" = some (.ref f__law_state)
  f__law_draw : Addr
  d__law_draw : FuncData
  F__law_draw : Fun K "_law_draw" "_law_draw" s__law_draw f__law_draw d__law_draw
  b__law_draw : Binds K d__law_draw p__law_draw []
  mg__law_draw : mg "_law_draw" = some (.ref f__law_draw)
  f__law_text : Addr
  d__law_text : FuncData
  F__law_text : Fun K "_law_text" "_law_text" s__law_text f__law_text d__law_text
  b__law_text : Binds K d__law_text p__law_text []
  mg__law_text : mg "_law_text" = some (.ref f__law_text)
  f_law : Addr
  d_law : FuncData
  F_law : Fun K "law" "law" s_law f_law d_law
  b_law : Binds K d_law p_law []
  mg_law : mg "law" = some (.ref f_law)
  C_Sealer : Addr
  mg_Sealer : mg "Sealer" = some (.ref C_Sealer)
  cl_Sealer : Cls K C_Sealer
  M_Sealer : Mk K C_Sealer f_Sealer___init__
  na_Sealer__marks : NoAttr K C_Sealer "_marks"
  na_Sealer__texts : NoAttr K C_Sealer "_texts"
  m_Sealer_mark : Meth K C_Sealer "mark" f_Sealer_mark
  m_Sealer_knows : Meth K C_Sealer "knows" f_Sealer_knows
  z_range : mg "range" = none
  z_len : mg "len" = none
  z_abs : mg "abs" = none
  z_int : mg "int" = none
  z_isinstance : mg "isinstance" = none
  z_tuple : mg "tuple" = none
  z_list : mg "list" = none
  z_zip : mg "zip" = none
  z_bool : mg "bool" = none
/-! ### the law's own stream of numbers -/
/-- at a: the list of the numbers left (at c) and the seed -/
def StA (a c : Addr) (H : Hp) : Prop := ∃ (ns : List Int) (z : Int), a ≠ c ∧ H a = some (.lst [.ref c, .int z]) ∧ H c = some (.lst (ns.map V.int)) ∧ ns.length ≤ 63 ∧ (∀ n ∈ ns, 0 ≤ n) ∧ 0 ≤ z ∧ z < 2147483647
/-- nothing else that stood has changed -/
def Kp (a c : Addr) (H H' : Hp) : Prop := ∀ b o, b ≠ a → b ≠ c → H b = some o → H' b = some o
theorem Kp.refl {a c : Addr} (H : Hp) : Kp a c H H := fun _ _ _ _ h => h
theorem Kp.trans {a c : Addr} {H H1 H2 : Hp} (x : Kp a c H H1) (y : Kp a c H1 H2) : Kp a c H H2 := fun b o h1 h2 e => y b o h1 h2 (x b o h1 h2 e)
theorem Kp.upd1 {a c : Addr} {H H1 : Hp} {o : HO} (x : Kp a c H H1) : Kp a c H (upd H1 a o) := fun b o h1 h2 e => (upd_ne h1).trans (x b o h1 h2 e)
theorem Kp.upd2 {a c : Addr} {H H1 : Hp} {o : HO} (x : Kp a c H H1) : Kp a c H (upd H1 c o) := fun b o h1 h2 e => (upd_ne h2).trans (x b o h1 h2 e)
theorem Kp.same {a c : Addr} {H H1 : Hp} (x : Same H H1) : Kp a c H H1 := fun b o _ _ e => x b o e
theorem Same.new {H : Hp} {p : Addr} {o : HO} (h : H p = none) : Same H (upd H p o) := fun b o e => by rw [upd_ne (ne_of_none e h)]; exact e
def spState (K : PySem.W.Frag) : Sp := fun vs H Q _ => ∃ (l : Addr) (ns : List Int), vs = [.ref l] ∧ SqL K H l (ns.map V.int) ∧ ns.length ≤ 63 ∧
  ∀ (a c : Addr) (H' : Hp), H a = none → H c = none → StA a c H' → Same H H' → Q (.ref a) H'
def spDraw : Sp := fun vs H Q _ => ∃ (a c : Addr) (m : Int), vs = [.ref a, .int m] ∧ StA a c H ∧ 1 ≤ m ∧ m < 1000000 ∧
  ∀ (r : Int) (H' : Hp), 0 ≤ r → r < m → StA a c H' → Kp a c H H' → Q (.int r) H'
theorem int_at {ns : List Int} {i : Nat} {y : V} (hi : (ns.map V.int)[i]? = some y) : ∃ u, ns[i]? = some u ∧ y = V.int u := by
  rw [List.getElem?_map] at hi
  cases e : ns[i]? with
  | none => rw [e] at hi; cases hi
  | some u => rw [e] at hi; exact ⟨u, rfl, (Option.some.inj hi).symm⟩
theorem upd_eq {H : Hp} {a : Addr} {o : HO} (h : H a = some o) : upd H a o = H := by
  funext b
  by_cases e : b = a
  · rw [e, upd_same, h]
  · rw [upd_ne e]
theorem iteDT {c A B : Prop} [Decidable c] (hc : c) (h : A) : if decide c = true then A else B := by
  rw [if_pos (decide_eq_true hc)]
  exact h
theorem iteDF {c A B : Prop} [Decidable c] (hc : ¬ c) (h : B) : if decide c = true then A else B := by
  rw [if_neg (by rw [decide_eq_false hc]; decide)]
  exact h
theorem ixN_nat {n j : Nat} (h : j < n) : ixN n (j : Int) = some j := by
  unfold ixN
  rw [if_pos (by omega), if_pos (by omega)]
  simp
theorem seqIx_nat {n j : Nat} (h : j < n) : seqIndex? (j : Int) n = some j := (ixN_seq (ixN_nat h)).1
theorem StA.keep {a c : Addr} {H H' : Hp} (h : StA a c H) (k : Same H H') : StA a c H' := by
  obtain ⟨ns, z, h1, h2, h3, h4⟩ := h
  exact ⟨ns, z, h1, k _ _ h2, k _ _ h3, h4⟩
theorem StA.ne {a c : Addr} {H : Hp} (h : StA a c H) : a ≠ c := by obtain ⟨_, _, h, _⟩ := h; exact h
theorem StA.some1 {a c : Addr} {H : Hp} (h : StA a c H) : ∃ o, H a = some o := by obtain ⟨_, _, _, h, _⟩ := h; exact ⟨_, h⟩
theorem StA.some2 {a c : Addr} {H : Hp} (h : StA a c H) : ∃ o, H c = some o := by obtain ⟨_, _, _, _, h, _⟩ := h; exact ⟨_, h⟩

theorem hu64 {k : Nat} {A : Around} (hr : Room k A) : A.units + 64 < cLine := by have := hr.un; omega
theorem hu65 {k : Nat} {A : Around} (hr : Room k A) : A.units + 65 < cLine := by have := hr.un; omega
/-- a key's part -/
inductive ItH (H : Hp) : Item → V → Prop
  | int (i : Int) : ItH H (.inl (.inl i)) (.int i)
  | str (x : Str) : PyData.strOk x = true → ItH H (.inl (.inr x)) (.str x)
  | one {ns : List Int} {b : Addr} : H b = some (.tup (ns.map V.int)) → ItH H (.inr ns) (.ref b)
theorem ItH.keep {H H' : Hp} (k : TKeep H H') {i : Item} {v : V} (h : ItH H i v) : ItH H' i v := by
  cases h with
  | int i => exact .int i
  | str x hx => exact .str x hx
  | one h => exact .one (k _ _ h)
theorem ItH.itv {K : PySem.W.Frag} {H : Hp} {i : Item} {v : V} (h : ItH H i v) : ItV K H i v := by
  cases h with
  | int i => exact .int i
  | str x hx => exact .str x hx
  | one h => exact .one (SqT.of h)
/-- a key: a tuple of such parts -/
def KyH (H : Hp) (ks : List Item) (a : Addr) : Prop := ∃ vs : List V, H a = some (.tup vs) ∧ Paired (ItH H) ks vs
theorem KyH.keep {H H' : Hp} (k : TKeep H H') {ks : List Item} {a : Addr} (h : KyH H ks a) : KyH H' ks a := by
  obtain ⟨vs, h1, h2⟩ := h
  exact ⟨vs, k _ _ h1, Paired.mapP h2 fun _ _ => ItH.keep k⟩
theorem KyH.key {K : PySem.W.Frag} {H : Hp} {ks : List Item} {a : Addr} (h : KyH H ks a) : KeyAt K H ks a := by
  obtain ⟨vs, h1, h2⟩ := h
  exact ⟨vs, SqT.of h1, Paired.mapP h2 fun _ _ => ItH.itv⟩
theorem ndAll_len : ∀ ds : List PyData, ds.length ≤ ndAll ds
  | [] => Nat.zero_le _
  | d :: ds => by
    have := nd_pos d
    have := ndAll_len ds
    simp only [List.length_cons, ndAll]
    omega
theorem snoc_cases {α : Type} (l : List α) : l = [] ∨ ∃ s a, l = s ++ [a] := by
  rcases List.eq_nil_or_concat l with h | ⟨s, a, h⟩
  · exact .inl h
  · exact .inr ⟨s, a, by simpa using h⟩
section
variable {P : Program} {w : World} {K : PySem.W.Frag} {mg : Str → Option Value} {base : Heap}
def spSpell : Sp := fun vs H Q _ => ∃ (v : V) (d : PyData), vs = [v] ∧ Td H v d ∧ txt d = true ∧ nd d ≤ 200 ∧ ∀ (t : Addr) (H' : Hp), H t = none → Same H H' → KyH H' (spell d) t → Q (.ref t) H'
theorem ok_spelled (T : Txt K mg) : FnOk P w K mg base CX0 1 T.f_spelled T.d_spelled p_spelled spSpell := by
  refine T.F_spelled.ok sc_spelled (fun vs H Q E h => ?_) (fun cdv A outer s H vs Q E hr h => ?_)
  · obtain ⟨v, d, rfl, _⟩ := h
    rfl
  · obtain ⟨v, d, rfl, hd, ht, hn, k⟩ := h
    refine ⟨_, (pss_cons (ps_set (i := 1) sc_spelled.nd rfl (Or.inl rfl) (pe_lst pa_nil))
      (pss_cons (ps_set (i := 2) sc_spelled.nd rfl (Or.inl rfl) (pe_lst (pa_cons (pv 0) pa_nil)))
      (pss_cons (ps_while PassesOwn.never (pt_truth (pv 2) (by intro _; rfl)) (pss_cons (ps_set (i := 3) sc_spelled.nd rfl (Or.inl rfl) (pe_bm0 PySem.F.plainAttrs_list PySem.F.slot_list_pop PySem.F.type_list_pop mt_pop (pv 2)))
      (pss_one (ps_if (pt_val (pe_callB call_isi (by rfl) T.z_isinstance (by decide +kernel) (pa_cons (pv 3) (pa_cons (pe_bltn (v := V.ty "tuple") (by rfl) T.z_tuple (by decide +kernel) rfl) pa_nil)))) (pss_cons (ps_expr (pe_bm PySem.F.plainAttrs_list PySem.F.slot_list_append PySem.F.type_list_append mt_append (pv 1) (pa_cons (pe_tup (pa_cons (pe_callB call_len_seq (by rfl) T.z_len PySem.boot_len (pa_cons (pv 3) pa_nil)) pa_nil)) pa_nil)))
      (pss_one (ps_expr (pe_bm PySem.F.plainAttrs_list PySem.F.slot_list_extend PySem.F.type_list_extend mt_extendT (pv 2) (pa_cons (pv 3) pa_nil))))) (pss_one (ps_expr (pe_bm PySem.F.plainAttrs_list PySem.F.slot_list_append PySem.F.type_list_append mt_append (pv 1) (pa_cons (pv 3) pa_nil))))))))
      (pss_one (ps_ret (pe_callTy call_tuple_of (by rfl) T.z_tuple (by decide +kernel) (pa_cons (pv 1) pa_nil))))))), ?_⟩
    refine ⟨Nat.zero_le _, fun l1 h1 => ?_⟩
    have S1 : Same H (upd H l1 (.lst [])) := Same.new h1
    refine ⟨_, rfl, (by show 1 ≤ sizeLine; decide), fun l2 h2 => ?_⟩
    have n12 : l1 ≠ l2 := fun e => by rw [← e, upd_same] at h2; cases h2
    have S2 := S1.trans (Same.new (o := .lst [v]) h2)
    have g2 : H l2 = none := by rw [upd_ne n12.symm] at h2; exact h2
    refine ⟨fun n σ H' => ∃ (ks : List Item) (vs ws : List V) (st : List PyData) (p : Option V), n = ndAll st ∧ σ = [some v, some (.ref l1), some (.ref l2), p] ∧ Same H H' ∧ H' l1 = some (.lst vs) ∧ H' l2 = some (.lst ws) ∧ Paired (ItH H') ks vs ∧ TdAll H' ws st ∧
      txtAll st = true ∧ ks ++ spellR st = spell d ∧ ks.length + ndAll st = nd d,
      ⟨_, [], [], [v], [d], none, rfl, rfl, S2, by rw [upd_ne n12, upd_same], upd_same, .nil, .cons (hd.keep (sameTk S2)) .nil, by simp [txtAll, ht], by simp [spellR], by simp [ndAll]⟩, ?_⟩
    rintro n σ H' ⟨ks, vs, ws, st, p, rfl, rfl, SH, hl1, hl2, hks, hst, htx, hsp, hcnt⟩
    have hlk := Paired.length hks
    have hls := ndAll_len st
    have hlw := hst.length
    rcases snoc_cases st with rfl | ⟨st', d', rfl⟩
    · cases hst
      refine ⟨_, rfl, false, .inl ⟨[], SqL.of hl2, rfl⟩, ?_⟩
      refine iteF ?_
      -- return tuple(signs)
      refine ⟨_, rfl, l1, _, rfl, .inl ⟨SqL.of hl1, fun t hnt => ?_⟩⟩
      have St : Same H' (upd H' t (.tup vs)) := Same.new hnt
      refine k t _ ?_ (SH.trans St) ⟨vs, upd_same, ?_⟩
      · cases z : H t with
        | none => rfl
        | some o => rw [SH _ _ z] at hnt; cases hnt
      · rw [← hsp, spellR, List.append_nil]
        exact Paired.mapP hks fun _ _ => ItH.keep (sameTk St)
    · obtain ⟨ws', v', rfl, hws, hv'⟩ := hst.snoc
      have htx' : txtAll st' = true ∧ txt d' = true := by
        rw [txtAll_app] at htx
        simpa [txtAll] using htx
      have hnd : ndAll (st' ++ [d']) = ndAll st' + nd d' := by rw [ndAll_app]; simp [ndAll]
      have hsr : spellR (st' ++ [d']) = spell d' ++ spellR st' := by rw [spellR_app]; simp [spellR]
      have hp' := nd_pos d'
      refine ⟨_, rfl, true, .inl ⟨_, SqL.of hl2, by simp⟩, ?_⟩
      refine iteT ?_
      refine ⟨_, fun _ _ h => h, ?_⟩
      refine ⟨_, rfl, .inl ⟨rfl, _, SqL.of hl2⟩, l2, _, v', rfl, rfl, hl2, by simp, ?_⟩
      rw [List.dropLast_concat]
      have K2 : TKeep H' (upd H' l2 (.lst ws')) := TKeep.upd hl2
      have SH2 : Same H (upd H' l2 (.lst ws')) := fun b o e => by rw [upd_ne (fun z => by rw [z, g2] at e; cases e)]; exact SH _ _ e
      have hl1' : upd H' l2 (.lst ws') l1 = some (.lst vs) := by rw [upd_ne n12]; exact hl1
      have hws2 := hws.keep K2
      have hv2 := hv'.keep K2
      have hks2 := Paired.mapP hks fun _ _ => ItH.keep K2
      -- a part that is no tuple
      have leaf : ∀ (it : Item) (t : Value), spell d' = [it] → nd d' = 1 → ItH (upd H' l2 (.lst ws')) it v' → ∃ m', m' < ndAll (st' ++ [d']) ∧ ∃ (ks : List Item) (vs_1 ws : List V) (st : List PyData) (p : Option V), m' = ndAll st ∧ [some v, some (V.ref l1), some (V.ref l2), some v'] = [some v, some (.ref l1), some (.ref l2), p] ∧
          Same H (upd (upd H' l2 (.lst ws')) l1 (.lst (vs ++ [v']))) ∧ upd (upd H' l2 (.lst ws')) l1 (.lst (vs ++ [v'])) l1 = some (.lst vs_1) ∧ upd (upd H' l2 (.lst ws')) l1 (.lst (vs ++ [v'])) l2 = some (.lst ws) ∧ Paired (ItH (upd (upd H' l2 (.lst ws')) l1 (.lst (vs ++ [v'])))) ks vs_1 ∧
          TdAll (upd (upd H' l2 (.lst ws')) l1 (.lst (vs ++ [v']))) ws st ∧ txtAll st = true ∧ ks ++ spellR st = spell d ∧ ks.length + ndAll st = nd d := fun it t e1 e2 e3 => by
        have K3 : TKeep (upd H' l2 (.lst ws')) (upd (upd H' l2 (.lst ws')) l1 (.lst (vs ++ [v']))) := TKeep.upd hl1'
        refine ⟨ndAll st', by omega, ks ++ [it], vs ++ [v'], ws', st', _, rfl, rfl, fun b o e => ?_, upd_same, by rw [upd_ne n12.symm, upd_same], ?_, hws2.keep K3, htx'.1, ?_, ?_⟩
        · rw [upd_ne (fun z => by rw [z, h1] at e; cases e)]; exact SH2 _ _ e
        · exact (Paired.mapP hks2 fun _ _ => ItH.keep K3).snoc (e3.keep K3)
        · rw [← hsp, hsr, e1, List.append_assoc]
        · rw [List.length_append, List.length_singleton]; omega
      cases hv2 with
      | non => simp [txt] at htx'
      | int i =>
        refine ⟨_, rfl, _, _, _, _, false, rfl, .ty "tuple", .base (.int i), kit_ty (by decide +kernel), _, rfl, iteF ?_⟩
        refine ⟨_, rfl, .inl ⟨rfl, _, SqL.of hl1'⟩, _, rfl, l1, _, _, rfl, rfl, hl1', small1000 (by omega), ?_⟩
        exact leaf (.inl (.inl i)) .none rfl rfl (.int i)
      | str x hx =>
        refine ⟨_, rfl, _, _, _, _, false, rfl, .ty "tuple", .base (.str x), kit_ty (by decide +kernel), _, rfl, iteF ?_⟩
        refine ⟨_, rfl, .inl ⟨rfl, _, SqL.of hl1'⟩, _, rfl, l1, _, _, rfl, rfl, hl1', small1000 (by omega), ?_⟩
        exact leaf (.inl (.inr x)) .none rfl rfl (.str x hx)
      | @tup a us ds ha hus =>
        have hlu := hus.length
        have e1 : nd (.tuple ds) = ndAll ds + 1 := by simp [nd]
        have e2 : spell (.tuple ds) = .inr [(ds.length : Int)] :: spellR ds := by simp [spell]
        have hld := ndAll_len ds
        have hlw' := hws.length
        have hls' := ndAll_len st'
        refine ⟨_, rfl, _, _, _, _, true, rfl, .ty "tuple", .base (.tup ha), kit_ty (by decide +kernel), _, rfl, iteT ?_⟩
        refine ⟨_, rfl, .inl ⟨rfl, _, SqL.of hl1'⟩, _, rfl, a, us, rfl, .inr (SqT.of ha), (by show 1 ≤ sizeLine; decide), fun q hq => ?_⟩
        have Sq : Same (upd H' l2 (.lst ws')) (upd (upd H' l2 (.lst ws')) q (.tup [.int us.length])) := Same.new hq
        have nq1 : l1 ≠ q := fun z => by rw [← z, hl1'] at hq; cases hq
        have nq2 : l2 ≠ q := fun z => by rw [← z, upd_same] at hq; cases hq
        refine ⟨l1, _, _, rfl, rfl, Sq _ _ hl1', small1000 (by omega), ?_⟩
        have K4 : TKeep (upd (upd H' l2 (.lst ws')) q (.tup [.int us.length])) (upd (upd (upd H' l2 (.lst ws')) q (.tup [.int us.length])) l1 (.lst (vs ++ [.ref q]))) := TKeep.upd (Sq _ _ hl1')
        have h24 : (upd (upd (upd H' l2 (.lst ws')) q (.tup [.int us.length])) l1 (.lst (vs ++ [.ref q]))) l2 = some (.lst ws') := by rw [upd_ne n12.symm, upd_ne nq2, upd_same]
        have ha4 := K4 _ _ (Sq _ _ ha)
        have hus4 := (hus.keep (sameTk Sq)).keep K4
        have hws4 := (hws2.keep (sameTk Sq)).keep K4
        have hq4 : ItH (upd (upd (upd H' l2 (.lst ws')) q (.tup [.int us.length])) l1 (.lst (vs ++ [.ref q]))) (.inr [(ds.length : Int)]) (.ref q) := .one (by rw [upd_ne nq1.symm, upd_same, hlu]; rfl)
        have hks4 := (Paired.mapP (Paired.mapP hks2 fun _ _ => ItH.keep (sameTk Sq)) fun _ _ => ItH.keep K4).snoc hq4
        have SH4 : Same H (upd (upd (upd H' l2 (.lst ws')) q (.tup [.int us.length])) l1 (.lst (vs ++ [.ref q]))) := fun b o e => by
          rw [upd_ne (fun z => by rw [z, h1] at e; cases e)]; exact Sq _ _ (SH2 _ _ e)
        have h14 : (upd (upd (upd H' l2 (.lst ws')) q (.tup [.int us.length])) l1 (.lst (vs ++ [.ref q]))) l1 = some (.lst (vs ++ [.ref q])) := upd_same
        generalize (upd (upd (upd H' l2 (.lst ws')) q (.tup [.int us.length])) l1 (.lst (vs ++ [.ref q]))) = H4 at *
        refine ⟨_, rfl, .inl ⟨rfl, _, SqL.of h24⟩, _, rfl, l2, a, _, _, rfl, rfl, h24, ha4, by omega, ?_⟩
        have K5 : TKeep H4 (upd H4 l2 (.lst (ws' ++ us))) := TKeep.upd h24
        refine ⟨ndAll (st' ++ ds), by rw [hnd, ndAll_app, e1]; omega, ks ++ [.inr [(ds.length : Int)]], vs ++ [.ref q], ws' ++ us, st' ++ ds, _, rfl, rfl, fun b o e => ?_, by rw [upd_ne n12]; exact h14, upd_same, Paired.mapP hks4 fun _ _ => ItH.keep K5, (hws4.app hus4).keep K5, ?_, ?_, ?_⟩
        · rw [upd_ne (fun z => by rw [z, g2] at e; cases e)]; exact SH4 _ _ e
        · rw [txtAll_app, htx'.1]
          simpa [txt] using htx'.2
        · rw [← hsp, hsr, e2, spellR_app]; simp
        · rw [List.length_append, List.length_singleton, ndAll_app]; omega
end

theorem paired_of_ix {α β : Type} {F : α → β → Prop} : ∀ {l1 : List α} {l2 : List β}, l1.length = l2.length → (∀ (j : Nat) (a : α) (b : β), l1[j]? = some a → l2[j]? = some b → F a b) → Paired F l1 l2
  | [], [], _, _ => .nil
  | [], _ :: _, h, _ => by simp at h
  | _ :: _, [], h, _ => by simp at h
  | _ :: _, _ :: _, h, f => .cons (f 0 _ _ rfl rfl) (paired_of_ix (Nat.succ.inj h) fun j a b x y => f (j + 1) a b x y)
theorem paired_app {α β : Type} {F : α → β → Prop} : ∀ {l1 m1 : List α} {l2 m2 : List β}, Paired F l1 l2 → Paired F m1 m2 → Paired F (l1 ++ m1) (l2 ++ m2)
  | _, _, _, _, .nil, y => y
  | _, _, _, _, .cons h t, y => .cons h (paired_app t y)
theorem paired_snocR {α β : Type} {F : α → β → Prop} : ∀ {l1 : List α} {a : α} {l2 : List β}, Paired F (l1 ++ [a]) l2 → ∃ m b, l2 = m ++ [b] ∧ Paired F l1 m ∧ F a b
  | [], _, _, .cons h .nil => ⟨[], _, rfl, .nil, h⟩
  | _ :: _, _, _, .cons h t => by
    obtain ⟨m, b, e, x, y⟩ := paired_snocR t
    exact ⟨_ :: m, b, by rw [e]; rfl, .cons h x, y⟩
theorem eqvAll_zip : ∀ ds es : List PyData, ds.length = es.length → PyData.eqvAll ds es = (ds.zip es).all fun p => PyData.eqv p.1 p.2
  | [], [], _ => rfl
  | [], _ :: _, h => by simp at h
  | _ :: _, [], h => by simp at h
  | d :: ds, e :: es, h => by simp [PyData.eqvAll, eqvAll_zip ds es (Nat.succ.inj h)]
theorem eqvAll_len : ∀ ds es : List PyData, ds.length ≠ es.length → PyData.eqvAll ds es = false
  | [], [], h => absurd rfl h
  | [], _ :: _, _ => rfl
  | _ :: _, [], _ => rfl
  | d :: ds, e :: es, h => by simp [PyData.eqvAll, eqvAll_len ds es (fun z => h (congrArg (· + 1) z))]
theorem depth_mem {d : PyData} : ∀ {ds : List PyData}, d ∈ ds → d.depth ≤ PyData.depthAll ds
  | e :: ds, h => by
    simp only [PyData.depthAll]
    rcases List.mem_cons.mp h with rfl | h
    · exact Nat.le_max_left ..
    · exact Nat.le_trans (depth_mem h) (Nat.le_max_right ..)
theorem zip_nd : ∀ ds es : List PyData, ((ds.zip es).map fun p => nd p.1).sum ≤ ndAll ds
  | [], _ => by simp
  | _ :: _, [] => by simp
  | d :: ds, e :: es => by
    have := zip_nd ds es
    simp only [List.zip_cons_cons, List.map_cons, List.sum_cons, ndAll]
    omega
theorem sum_len (ps : List (PyData × PyData)) : ps.length ≤ (ps.map fun p => nd p.1).sum := by
  induction ps with
  | nil => simp
  | cons p ps ih =>
    have := nd_pos p.1
    simp only [List.length_cons, List.map_cons, List.sum_cons]
    omega
/-- a pair of the stack -/
def PrH (H : Hp) (p : PyData × PyData) (a : Addr) : Prop := ∃ x y : V, H a = some (.tup [x, y]) ∧ Td H x p.1 ∧ Td H y p.2
theorem PrH.keep {H H' : Hp} (k : TKeep H H') {p : PyData × PyData} {a : Addr} (h : PrH H p a) : PrH H' p a := by
  obtain ⟨x, y, h1, h2, h3⟩ := h
  exact ⟨x, y, k _ _ h1, h2.keep k, h3.keep k⟩
theorem tup_test (K : PySem.W.Frag) {H : Hp} {v : V} {d : PyData} (h : Td H v d) : (∃ a us ds, v = .ref a ∧ d = .tuple ds ∧ H a = some (.tup us) ∧ TdAll H us ds) ∨
    ((∃ t, TyX K H v t ∧ PySem.W.kitOne K t (.type "tuple") = some false) ∧ ∀ ds, d ≠ .tuple ds) := by
  cases h with
  | non => exact .inr ⟨⟨_, .base .non, kit_ty (by decide +kernel)⟩, fun ds z => by cases z⟩
  | int i => exact .inr ⟨⟨_, .base (.int i), kit_ty (by decide +kernel)⟩, fun ds z => by cases z⟩
  | str x _ => exact .inr ⟨⟨_, .base (.str x), kit_ty (by decide +kernel)⟩, fun ds z => by cases z⟩
  | tup ha hs => exact .inl ⟨_, _, _, rfl, rfl, ha, hs⟩
def spSame : Sp := fun vs H Q _ => ∃ (x y : V) (d e : PyData), vs = [x, y] ∧ Td H x d ∧ Td H y e ∧ d.depth ≤ 60 ∧ e.depth ≤ 60 ∧ nd d ≤ 200 ∧ ∀ H', Same H H' → Q (.bl (PyData.eqv d e)) H'
theorem iteNN {c A B : Prop} [Decidable c] (hc : ¬ c) (h : A) : if (!decide c) = true then A else B := by
  rw [decide_eq_false hc]
  exact iteT h
/-- the walk's state -/
def SmI (l : Addr) (d e : PyData) (H : Hp) (n : Nat) (H' : Hp) : Prop := ∃ (ps : List (PyData × PyData)) (as : List Addr), n = (ps.map fun p => nd p.1).sum ∧ Same H H' ∧ H' l = some (.lst (as.map V.ref)) ∧ Paired (PrH H') ps as ∧
  (∀ p ∈ ps, p.1.depth ≤ 60 ∧ p.2.depth ≤ 60) ∧ PyData.eqv d e = (ps.all fun p => PyData.eqv p.1 p.2) ∧ n ≤ 200
section
variable {P : Program} {w : World} {K : PySem.W.Frag} {mg : Str → Option Value} {base : Heap}
theorem ok_same (T : Txt K mg) : FnOk P w K mg base CX0 1 T.f_is_same T.d_is_same p_is_same spSame := by
  refine T.F_is_same.ok sc_is_same (fun vs H Q E h => ?_) (fun cdv A outer s H vs Q E hr h => ?_)
  · obtain ⟨x, y, d, e, rfl, _⟩ := h
    rfl
  · obtain ⟨x, y, d, e, rfl, hx, hy, dd, de, hn, k⟩ := h
    refine ⟨_, (pss_cons (ps_set (i := 2) sc_is_same.nd rfl (Or.inl rfl) (pe_lst (pa_cons (pe_tup (pa_cons (pv 0) (pa_cons (pv 1) pa_nil))) pa_nil)))
      (pss_cons (ps_while PassesOwn.never (pt_truth (pv 2) (by intro _; rfl)) (pss_cons (ps_asg (pe_bm0 PySem.F.plainAttrs_list PySem.F.slot_list_pop PySem.F.type_list_pop mt_pop (pv 2)) (pg_tup rfl (pgs_cons (pg_name (i := 3) sc_is_same.nd rfl (Or.inl rfl)) (pgs_cons (pg_name (i := 4) sc_is_same.nd rfl (Or.inl rfl)) pgs_nil))))
      (pss_one (ps_if (PW.pt (pw_and (pt_val (pe_callB call_isi (by rfl) T.z_isinstance (by decide +kernel) (pa_cons (pv 3) (pa_cons (pe_bltn (v := V.ty "tuple") (by rfl) T.z_tuple (by decide +kernel) rfl) pa_nil)))) (pw_and1 (pt_val (pe_callB call_isi (by rfl) T.z_isinstance (by decide +kernel) (pa_cons (pv 4) (pa_cons (pe_bltn (v := V.ty "tuple") (by rfl) T.z_tuple (by decide +kernel) rfl) pa_nil))))))) (pss_cons (ps_if (pt_cmpR op_ne (pe_callB call_len_seq (by rfl) T.z_len PySem.boot_len (pa_cons (pv 3) pa_nil)) (pe_callB call_len_seq (by rfl) T.z_len PySem.boot_len (pa_cons (pv 4) pa_nil)) (nomark _)) (pss_one (ps_ret pe_bl)) pss_nil)
      (pss_one (ps_expr (pe_bm PySem.F.plainAttrs_list PySem.F.slot_list_extend PySem.F.type_list_extend mt_extend (pv 2) (pa_cons (pe_listZip rfl (pv 3) (pv 4) rfl T.z_list rfl T.z_zip) pa_nil))))) (pss_one (ps_if (pt_cmpR (op_neD (hr.units)) (pv 3) (pv 4) (nomark _)) (pss_one (ps_ret pe_bl)) pss_nil))))))
      (pss_one (ps_ret pe_bl)))), ?_⟩
    refine ⟨_, rfl, _, rfl, (by show 2 ≤ sizeLine; decide), fun q hq => ⟨(by show 1 ≤ sizeLine; decide), fun l hl => ?_⟩⟩
    have Sq : Same H (upd H q (.tup [x, y])) := Same.new hq
    have S0 : Same H (upd (upd H q (.tup [x, y])) l (.lst [.ref q])) := Sq.trans (Same.new hl)
    have gl : H l = none := by
      cases z : H l with
      | none => rfl
      | some o => rw [Sq _ _ z] at hl; cases hl
    have nlq : q ≠ l := fun z => by rw [← z, upd_same] at hl; cases hl
    refine ⟨fun n σ H' => ∃ p1 p2 : Option V, σ = [some x, some y, some (.ref l), p1, p2] ∧ SmI l d e H n H',
      ⟨_, none, none, rfl, [(d, e)], [q], rfl, S0, upd_same, .cons ⟨x, y, by rw [upd_ne nlq, upd_same], hx.keep (sameTk S0), hy.keep (sameTk S0)⟩ .nil, fun p hp => by rw [List.mem_singleton.mp hp]; exact ⟨dd, de⟩, by simp, by simpa using hn⟩, ?_⟩
    rintro n σ H' ⟨p1, p2, rfl, ps, as, rfl, SH, hlA, hps, hdep, heq, hle⟩
    have hlen := sum_len ps
    have hal := Paired.length hps
    rcases snoc_cases ps with rfl | ⟨ps', p, rfl⟩
    · cases hps
      refine ⟨_, rfl, false, .inl ⟨[], SqL.of hlA, rfl⟩, ?_⟩
      refine iteF ?_
      have h2 := k H' SH
      rw [heq] at h2
      exact h2
    · obtain ⟨as', a, rfl, hps', x', y', ha, hx', hy'⟩ := paired_snocR hps
      refine ⟨_, rfl, true, .inl ⟨_, SqL.of hlA, by simp⟩, ?_⟩
      refine iteT ?_
      refine ⟨_, fun _ _ h => h, ?_⟩
      refine ⟨_, rfl, .inl ⟨rfl, _, SqL.of hlA⟩, l, _, .ref a, rfl, rfl, hlA, by simp, ?_⟩
      have hdl : ((as' ++ [a]).map V.ref).dropLast = as'.map V.ref := by simp
      rw [hdl]
      have K2 : TKeep H' (upd H' l (.lst (as'.map V.ref))) := TKeep.upd hlA
      have SH2 : Same H (upd H' l (.lst (as'.map V.ref))) := fun b o e => by rw [upd_ne (fun z => by rw [z, gl] at e; cases e)]; exact SH _ _ e
      have hl2 : (upd H' l (.lst (as'.map V.ref))) l = some (.lst (as'.map V.ref)) := upd_same
      have ha2 := K2 _ _ ha
      have hx2 := hx'.keep K2
      have hy2 := hy'.keep K2
      have hps2 := Paired.mapP hps' fun _ _ => PrH.keep K2
      generalize (upd H' l (.lst (as'.map V.ref))) = H2 at *
      refine ⟨a, _, rfl, SqT.of ha2, rfl, _, _, rfl, _, _, rfl, rfl, ?_⟩
      have hsum : ((ps' ++ [p]).map fun p => nd p.1).sum = (ps'.map fun p => nd p.1).sum + nd p.1 := by simp
      have hall : ((ps' ++ [p]).all fun p => PyData.eqv p.1 p.2) = ((ps'.all fun p => PyData.eqv p.1 p.2) && PyData.eqv p.1 p.2) := by simp
      rw [hall] at heq
      rw [hsum] at hle ⊢
      have hpos := nd_pos p.1
      have hdp := hdep p (by simp)
      have hdep' : ∀ p ∈ ps', p.1.depth ≤ 60 ∧ p.2.depth ≤ 60 := fun q hq => hdep q (List.mem_append_left _ hq)
      -- the loop goes on with fewer pairs
      have on : ∀ (H3 : Hp) (ps3 : List (PyData × PyData)) (as3 : List Addr), Same H H3 → H3 l = some (.lst (as3.map V.ref)) → Paired (PrH H3) ps3 as3 → (∀ p ∈ ps3, p.1.depth ≤ 60 ∧ p.2.depth ≤ 60) → PyData.eqv d e = (ps3.all fun p => PyData.eqv p.1 p.2) →
          (ps3.map fun p => nd p.1).sum < (ps'.map fun p => nd p.1).sum + nd p.1 → ∃ m', m' < (ps'.map fun p => nd p.1).sum + nd p.1 ∧ ∃ p1 p2 : Option V, [some x, some y, some (V.ref l), some x', some y'] = [some x, some y, some (.ref l), p1, p2] ∧ SmI l d e H m' H3 :=
        fun H3 ps3 as3 a1 a2 a3 a4 a5 a6 => ⟨_, a6, _, _, rfl, ps3, as3, rfl, a1, a2, a3, a4, a5, by omega⟩
      -- left != right
      have neq : ∀ (G : Bool → Hp → Prop), (PyData.eqv p.1 p.2 = false → G true H2) → (PyData.eqv p.1 p.2 = true → G false H2) → rNeD K x' y' H2 fun v H => ∃ b, v = .bl b ∧ G b H := fun G g1 g2 =>
        ⟨p.1, p.2, hx2.dp, hy2.dp, hx2.shaped (by omega), hy2.shaped (by omega), _, rfl, by
          cases z : PyData.eqv p.1 p.2 with
          | true => exact g2 z
          | false => exact g1 z⟩
      have fls : PyData.eqv p.1 p.2 = false → Q (.bl false) H2 := fun z => by
        have h2 := k H2 SH2
        rw [heq, z, Bool.and_false] at h2
        exact h2
      have tru : PyData.eqv p.1 p.2 = true → ∃ m', m' < (ps'.map fun p => nd p.1).sum + nd p.1 ∧ ∃ p1 p2 : Option V, [some x, some y, some (V.ref l), some x', some y'] = [some x, some y, some (.ref l), p1, p2] ∧ SmI l d e H m' H2 := fun z =>
        on H2 ps' as' SH2 hl2 hps2 hdep' (by rw [heq, z, Bool.and_true]) (by omega)
      rcases tup_test K hx2 with ⟨ax, ux, dsx, ex, edx, hax, hux⟩ | ⟨⟨tx, tyx, kx⟩, nx⟩
      · subst ex
        rcases tup_test K hy2 with ⟨ay, uy, dsy, ey, edy, hay, huy⟩ | ⟨⟨ty, tyy, ky⟩, ny⟩
        · subst ey
          refine ⟨_, rfl, _, _, _, _, true, rfl, .ty "tuple", .base (.tup hax), kit_ty (by decide +kernel), _, rfl, iteT ?_⟩
          refine ⟨_, rfl, _, _, _, _, true, rfl, .ty "tuple", .base (.tup hay), kit_ty (by decide +kernel), _, rfl, iteT ?_⟩
          have lx := hux.length
          have ly := huy.length
          have e1 : nd p.1 = ndAll dsx + 1 := by rw [edx]; simp [nd]
          have lz := ndAll_len dsx
          by_cases hlen : ux.length = uy.length
          · refine ⟨_, rfl, ax, ux, rfl, .inr (SqT.of hax), _, rfl, ay, uy, rfl, .inr (SqT.of hay), rfl, _, rfl, iteNS (by rw [hlen]) ?_⟩
            refine ⟨_, rfl, .inl ⟨rfl, _, SqL.of hl2⟩, _, rfl, _, rfl, ax, ay, ux, uy, rfl, rfl, SqT.of hax, SqT.of hay, hlen, by omega, fun S nas H3 hS S3 hnl hS3 hnt => ?_⟩
            have hps3 := Paired.length hps'
            have s5 := sum_len ps'
            refine ⟨l, S, _, _, rfl, rfl, S3 _ _ hl2, hS3, ?_, ?_⟩
            · rw [List.length_map, List.length_map]
              exact Nat.le_trans (by omega : _ ≤ 1000) (by decide)
            · have K4 : TKeep H3 (upd H3 l (.lst (as'.map V.ref ++ nas.map V.ref))) := TKeep.upd (S3 _ _ hl2)
              have K3 := (sameTk S3).trans K4
              have hzn := zip_nd dsx dsy
              refine on _ (ps' ++ dsx.zip dsy) (as' ++ nas) (fun b o z => ?_) (by rw [upd_same, List.map_append]) (paired_app (Paired.mapP hps2 fun _ _ => PrH.keep K3) (paired_of_ix ?_ fun j q a g1 g2 => ?_)) (fun q hq => ?_) ?_ ?_
              · rw [upd_ne (fun y => by rw [y, gl] at z; cases z)]
                exact S3 _ _ (SH2 _ _ z)
              · rw [List.length_zip]; omega
              · obtain ⟨q1, q2⟩ := q
                rw [List.getElem?_zip_eq_some] at g1
                have j1 : j < ux.length := by rw [lx]; exact (List.getElem?_eq_some_iff.mp g1.1).1
                have j2 : j < uy.length := by omega
                obtain ⟨d1, f1, f2⟩ := hux.get (List.getElem?_eq_getElem j1)
                obtain ⟨d2, f3, f4⟩ := huy.get (List.getElem?_eq_getElem j2)
                rw [g1.1] at f1
                rw [g1.2] at f3
                cases f1
                cases f3
                exact ⟨ux[j], uy[j], K4 _ _ (hnt j a _ _ g2 (List.getElem?_eq_getElem j1) (List.getElem?_eq_getElem j2)), f2.keep K3, f4.keep K3⟩
              · rcases List.mem_append.mp hq with hq | hq
                · exact hdep' q hq
                · have m1 := depth_mem (List.of_mem_zip hq).1
                  have m2 := depth_mem (List.of_mem_zip hq).2
                  rw [edx, edy] at hdp
                  simp only [PyData.depth] at hdp
                  omega
              · rw [heq, edx, edy, List.all_append, PyData.eqv, eqvAll_zip _ _ (by omega)]
              · rw [List.map_append, List.sum_append]
                omega
          · refine ⟨_, rfl, ax, ux, rfl, .inr (SqT.of hax), _, rfl, ay, uy, rfl, .inr (SqT.of hay), rfl, _, rfl, iteNN (fun z => hlen (by have := V.int.inj z; omega)) ?_⟩
            refine fls ?_
            rw [edx, edy, PyData.eqv]
            exact eqvAll_len _ _ (by omega)
        · refine ⟨_, rfl, _, _, _, _, true, rfl, .ty "tuple", .base (.tup hax), kit_ty (by decide +kernel), _, rfl, iteT ?_⟩
          refine ⟨_, rfl, _, _, _, _, false, rfl, .ty "tuple", tyy, ky, _, rfl, iteF ?_⟩
          refine ⟨_, rfl, _, rfl, neq _ (fun z => ?_) (fun z => ?_)⟩
          · exact iteT (fls z)
          · exact iteF (tru z)
      · refine ⟨_, rfl, _, _, _, _, false, rfl, .ty "tuple", tyx, kx, _, rfl, iteF ?_⟩
        refine iteF ?_
        refine ⟨_, rfl, _, rfl, neq _ (fun z => ?_) (fun z => ?_)⟩
        · exact iteT (fls z)
        · exact iteF (tru z)
end

/-! ### the sealer's objects -/
/-- the rows of the marks: the texts' signs, their numbers from n + 1 on -/
def Num (H : Hp) : Nat → List PyData → List (List Item × Addr × Int) → Prop
  | _, [], [] => True
  | n, d :: ds, q :: kvs => q.1 = spell d ∧ q.2.2 = (n : Int) + 1 ∧ KyH H q.1 q.2.1 ∧ Num H (n + 1) ds kvs
  | _, _, _ => False
theorem Num.length {H : Hp} : ∀ {n : Nat} {ds : List PyData} {kvs : List (List Item × Addr × Int)}, Num H n ds kvs → ds.length = kvs.length
  | _, [], [], _ => rfl
  | _, [], _ :: _, h => h.elim
  | _, _ :: _, [], h => h.elim
  | _, _ :: _, _ :: _, h => congrArg (· + 1) (Num.length h.2.2.2)
theorem Num.keep {H H' : Hp} (k : TKeep H H') : ∀ {n : Nat} {ds : List PyData} {kvs : List (List Item × Addr × Int)}, Num H n ds kvs → Num H' n ds kvs
  | _, [], [], _ => True.intro
  | _, [], _ :: _, h => h.elim
  | _, _ :: _, [], h => h.elim
  | _, _ :: _, _ :: _, h => ⟨h.1, h.2.1, h.2.2.1.keep k, Num.keep k h.2.2.2⟩
theorem Num.mem {H : Hp} : ∀ {n : Nat} {ds : List PyData} {kvs : List (List Item × Addr × Int)}, Num H n ds kvs → ∀ q ∈ kvs, KyH H q.1 q.2.1
  | _, [], [], _, q, hq => by cases hq
  | _, [], _ :: _, h, _, _ => h.elim
  | _, _ :: _, [], h, _, _ => h.elim
  | _, _ :: _, _ :: _, h, q, hq => by
    rcases List.mem_cons.mp hq with rfl | hq
    · exact h.2.2.1
    · exact Num.mem h.2.2.2 q hq
theorem Num.snoc {H : Hp} {d : PyData} {a : Addr} (hk : KyH H (spell d) a) : ∀ {n : Nat} {ds : List PyData} {kvs : List (List Item × Addr × Int)}, Num H n ds kvs → Num H n (ds ++ [d]) (kvs ++ [(spell d, a, ((n + ds.length : Nat) : Int) + 1)])
  | n, [], [], _ => ⟨rfl, rfl, hk, True.intro⟩
  | _, [], _ :: _, h => h.elim
  | _, _ :: _, [], h => h.elim
  | n, e :: ds, q :: kvs, h => by
    refine ⟨h.1, h.2.1, h.2.2.1, ?_⟩
    have := Num.snoc hk h.2.2.2
    rw [show n + 1 + ds.length = n + (e :: ds).length by simp only [List.length_cons]; omega] at this
    exact this
theorem spell_ne {d e : PyData} (hd : txt d = true) (he : txt e = true) (h : spell d = spell e) : d = e := (spell_inj d e [] [] hd he (by rw [h])).1
theorem txtAll_mem {d : PyData} : ∀ {ds : List PyData}, txtAll ds = true → d ∈ ds → txt d = true
  | e :: ds, h, hm => by
    have h' : txt e = true ∧ txtAll ds = true := by simpa [txtAll] using h
    rcases List.mem_cons.mp hm with rfl | hm
    · exact h'.1
    · exact txtAll_mem h'.2 hm
theorem Num.none {H : Hp} {d : PyData} (hd : txt d = true) : ∀ {n : Nat} {ds : List PyData} {kvs : List (List Item × Addr × Int)}, Num H n ds kvs → txtAll ds = true → d ∉ ds → atK kvs (spell d) = none
  | _, [], [], _, _, _ => rfl
  | _, [], _ :: _, h, _, _ => h.elim
  | _, _ :: _, [], h, _, _ => h.elim
  | _, e :: ds, q :: kvs, h, ht, hm => by
    have h' : txt e = true ∧ txtAll ds = true := by simpa [txtAll] using ht
    have ne : ¬ q.1 = spell d := fun z => hm (by rw [spell_ne hd h'.1 (by rw [← z, h.1])]; exact List.mem_cons_self)
    have := Num.none hd h.2.2.2 h'.2 (fun z => hm (List.mem_cons_of_mem _ z))
    simpa [atK, ne] using this
theorem Num.at {H : Hp} {d : PyData} (hd : txt d = true) : ∀ {n : Nat} {ds : List PyData} {kvs : List (List Item × Addr × Int)} {i : Nat}, Num H n ds kvs → txtAll ds = true → ds.Nodup → ds[i]? = some d → atK kvs (spell d) = some (((n + i : Nat) : Int) + 1)
  | _, [], [], _, _, _, _, h => by simp at h
  | _, [], _ :: _, _, h, _, _, _ => h.elim
  | _, _ :: _, [], _, h, _, _, _ => h.elim
  | n, e :: ds, q :: kvs, 0, h, ht, hn, hi => by
    cases hi
    simp [atK, h.1, h.2.1]
  | n, e :: ds, q :: kvs, i + 1, h, ht, hn, hi => by
    have h' : txt e = true ∧ txtAll ds = true := by simpa [txtAll] using ht
    have hn' := List.nodup_cons.mp hn
    have hi' : ds[i]? = some d := hi
    have ne : ¬ q.1 = spell d := fun z => hn'.1 (by rw [← spell_ne hd h'.1 (by rw [← z, h.1])]; exact List.mem_of_getElem? hi')
    have := Num.at hd h.2.2.2 h'.2 hn'.2 hi'
    rw [show n + 1 + i = n + (i + 1) by omega] at this
    simpa [atK, ne] using this
/-- a sealer at p that has marked ds -/
def SeA (P : Program) (w : World) (C : Addr) (H : Hp) (p md tl : Addr) (ds : List PyData) : Prop := ∃ (dx : Addr) (kvs : List (List Item × Addr × Int)) (vs : List V), H p = some (.ins C dx [("_marks", .ref md), ("_texts", .ref tl)]) ∧ H md = some (MkD P w md kvs) ∧ H tl = some (.lst vs) ∧
  TdAll H vs ds ∧ Num H 0 ds kvs ∧ txtAll ds = true ∧ ds.Nodup ∧ ∀ d ∈ ds, d.depth ≤ 60
theorem ins_mkd {P : Program} {w : World} {C dx d : Addr} {fs : List (Str × V)} {kvs : List (List Item × Addr × Int)} (h : HO.ins C dx fs = MkD P w d kvs) : False := by
  have h' : HO.ins C dx fs = HO.ext _ := h
  cases h'
theorem lst_mkd {P : Program} {w : World} {d : Addr} {vs : List V} {kvs : List (List Item × Addr × Int)} (h : HO.lst vs = MkD P w d kvs) : False := by
  have h' : HO.lst vs = HO.ext _ := h
  cases h'
theorem tup_mkd {P : Program} {w : World} {d : Addr} {vs : List V} {kvs : List (List Item × Addr × Int)} (h : HO.tup vs = MkD P w d kvs) : False := by
  have h' : HO.tup vs = HO.ext _ := h
  cases h'
/-- nothing of it is written -/
theorem SeA.keep {P : Program} {w : World} {C : Addr} {H H' : Hp} {p md tl : Addr} {ds : List PyData} (h : SeA P w C H p md tl ds) (k : TKeep H H') (hp : ∀ o, H p = some o → H' p = some o) (hm : ∀ o, H md = some o → H' md = some o) (ht : ∀ o, H tl = some o → H' tl = some o) : SeA P w C H' p md tl ds := by
  obtain ⟨dx, kvs, vs, h1, h2, h3, h4, h5, h6⟩ := h
  exact ⟨dx, kvs, vs, hp _ h1, hm _ h2, ht _ h3, h4.keep k, h5.keep k, h6⟩
theorem SeA.same {P : Program} {w : World} {C : Addr} {H H' : Hp} {p md tl : Addr} {ds : List PyData} (h : SeA P w C H p md tl ds) (k : Same H H') : SeA P w C H' p md tl ds := h.keep (sameTk k) (fun o e => k _ _ e) (fun o e => k _ _ e) fun o e => k _ _ e
/-- what knows answers -/
def kn (ds : List PyData) (d : PyData) (m : Int) : Bool := if 1 ≤ m then (match ds[(m - 1).toNat]? with | some e => PyData.eqv d e | none => false) else false
section
variable {P : Program} {w : World} {K : PySem.W.Frag} {mg : Str → Option Value} {base : Heap}
def spInitS (P : Program) (w : World) (C : Addr) : Sp := fun vs H Q _ => ∃ (p dx : Addr), vs = [.ref p] ∧ H p = some (.ins C dx []) ∧ ∀ (md tl : Addr) (H' : Hp), H md = none → H tl = none → (∀ b o, b ≠ p → H b = some o → H' b = some o) → SeA P w C H' p md tl [] → Q .non H'
theorem ok_init (T : Txt K mg) : FnOk P w K mg base CX0 1 T.f_Sealer___init__ T.d_Sealer___init__ p_Sealer___init__ (spInitS P w T.C_Sealer) := by
  refine T.F_Sealer___init__.ok sc_Sealer___init__ (fun vs H Q E h => ?_) (fun cdv A outer s H vs Q E hr h => ?_)
  · obtain ⟨p, dx, rfl, _⟩ := h
    rfl
  · obtain ⟨p, dx, rfl, hp, k⟩ := h
    refine ⟨_, (pss_cons (ps_fld (pv 0) pe_mkd0 rfl)
      (pss_one (ps_fld (pv 0) (pe_lst pa_nil) rfl))), ?_⟩
    intro md hm
    have npm : p ≠ md := fun z => by rw [← z, hp] at hm; cases hm
    refine ⟨_, rfl, p, T.C_Sealer, dx, _, rfl, by rw [upd_ne npm]; exact hp, T.cl_Sealer, T.na_Sealer__marks, (by show 0 < 1000; decide), ?_⟩
    refine ⟨Nat.zero_le _, fun tl ht => ?_⟩
    have npt : p ≠ tl := fun z => by rw [← z, upd_same] at ht; cases ht
    have nmt : md ≠ tl := fun z => by rw [← z, upd_ne npm.symm, upd_same] at ht; cases ht
    refine ⟨_, rfl, p, T.C_Sealer, dx, _, rfl, by rw [upd_ne npt, upd_same], T.cl_Sealer, T.na_Sealer__texts, (by show 1 < 1000; decide), ?_⟩
    have ht0 : H tl = none := by
      rw [upd_ne npt.symm, upd_ne nmt.symm] at ht
      exact ht
    refine k md tl _ hm ht0 (fun b o hb e => ?_) ⟨dx, [], [], upd_same, ?_, ?_, .nil, True.intro, rfl, List.nodup_nil, fun d hd => by cases hd⟩
    · rw [upd_ne hb, upd_ne (ne_of_none e ht0), upd_ne hb, upd_ne (ne_of_none e hm)]; exact e
    · rw [upd_ne npm.symm, upd_ne nmt, upd_ne npm.symm, upd_same]; rfl
    · rw [upd_ne npt.symm, upd_same]
def spKnows (P : Program) (w : World) (C : Addr) : Sp := fun vs H Q _ => ∃ (p md tl : Addr) (ds : List PyData) (v : V) (d : PyData) (m : Int), vs = [.ref p, v, .int m] ∧ SeA P w C H p md tl ds ∧ Td H v d ∧ d.depth ≤ 60 ∧ nd d ≤ 200 ∧ ∀ H', Same H H' → Q (.bl (kn ds d m)) H'
theorem ok_knows (T : Txt K mg) : FnOk P w K mg base CX0 2 T.f_Sealer_knows T.d_Sealer_knows p_Sealer_knows (spKnows P w T.C_Sealer) := by
  have G_is_same : FnOk P w K mg base CX0 1 T.f_is_same T.d_is_same p_is_same spSame := ok_same T
  refine T.F_Sealer_knows.ok sc_Sealer_knows (fun vs H Q E h => ?_) (fun cdv A outer s H vs Q E hr h => ?_)
  · obtain ⟨p, md, tl, ds, v, d, m, rfl, _⟩ := h
    rfl
  · obtain ⟨p, md, tl, ds, v, d, m, rfl, ⟨dx, kvs, us, hp, hm, ht, htd, hnum, htx, hnod, hdp⟩, hd, dd, dn, k⟩ := h
    refine ⟨_, (pss_cons (ps_if (pt_not (pt_chain op_le op_le pe_int (pv 2) (pe_callB call_len_seq (by rfl) T.z_len PySem.boot_len (pa_cons (pe_fld (pv 0) rfl) pa_nil)))) (pss_one (ps_ret pe_bl)) pss_nil)
      (pss_one (ps_ret (pe_call G_is_same (hr.mono (by decide)) rfl T.mg_is_same T.F_is_same.kp T.b_is_same .nil pass0 (pa_cons (pv 1) (pa_cons (pe_ix ix_list (pe_fld (pv 0) rfl) (pe_op op_sub (pv 2) pe_int) (fun _ _ => rfl)) pa_nil)))))), ?_⟩
    have hlen := htd.length
    have no : ¬ (1 ≤ m ∧ m ≤ (us.length : Int)) → Q (.bl false) H := fun z => by
      have e : kn ds d m = false := by
        unfold kn
        split
        · rw [List.getElem?_eq_none (by omega)]
        · rfl
      have := k H (Same.refl H)
      rwa [e] at this
    refine ⟨_, rfl, _, _, rfl, rfl, _, rfl, ite2 (fun a => ?_) (fun a => ?_)⟩
    · have a := of_decide_eq_true a
      refine ⟨_, rfl, p, T.C_Sealer, dx, _, _, rfl, hp, T.cl_Sealer, T.na_Sealer__texts, rfl, tl, us, rfl, .inl (SqL.of ht), _, _, rfl, rfl, _, rfl, ite2 (fun b => ?_) (fun b => ?_)⟩
      · exact no fun z => (by rw [decide_eq_true z.2] at b; exact absurd b (by decide))
      · have b : m ≤ (us.length : Int) := by
          cases e : decide (m ≤ (us.length : Int)) with
          | true => exact of_decide_eq_true e
          | false => rw [e] at b; exact absurd rfl b
        have hj : (m - 1).toNat < us.length := by omega
        obtain ⟨e, f1, f2⟩ := htd.get (List.getElem?_eq_getElem hj)
        refine ⟨_, rfl, _, rfl, p, T.C_Sealer, dx, _, _, rfl, hp, T.cl_Sealer, T.na_Sealer__texts, rfl, _, rfl, _, _, rfl, rfl, tl, us, m - 1, _, rfl, rfl, SqL.of ht, at_of (j := (m - 1).toNat) (by omega) (List.getElem?_eq_getElem hj), ?_⟩
        refine ⟨_, _, d, e, rfl, hd, f2, dd, hdp e (List.mem_of_getElem? f1), dn, fun H' S => ?_⟩
        have := k H' S
        unfold kn at this
        rw [if_pos a, f1] at this
        exact this
    · exact ⟨_, rfl, iteT (no fun z => a (decide_eq_true z.1))⟩
end

theorem tkUpdM {P : Program} {w : World} {H : Hp} {a : Addr} {o : HO} {kvs : List (List Item × Addr × Int)} (h : H a = some (MkD P w a kvs)) : TKeep H (upd H a o) := fun b vs e => by
  rw [upd_ne (fun z => by rw [z, h] at e; exact (tup_mkd (Option.some.inj e).symm).elim)]; exact e
theorem TdAll.snoc' {H : Hp} {vs : List V} {ds : List PyData} {v : V} {d : PyData} (h : TdAll H vs ds) (x : Td H v d) : TdAll H (vs ++ [v]) (ds ++ [d]) := h.app (.cons x .nil)
section
variable {P : Program} {w : World} {K : PySem.W.Frag} {mg : Str → Option Value} {base : Heap}
def spMark (P : Program) (w : World) (C : Addr) : Sp := fun vs H Q _ => ∃ (p md tl : Addr) (ds : List PyData) (v : V) (d : PyData), vs = [.ref p, v] ∧ SeA P w C H p md tl ds ∧ Td H v d ∧ txt d = true ∧ d.depth ≤ 60 ∧ nd d ≤ 200 ∧ ds.length ≤ 100 ∧
  (∀ (i : Nat) H', ds[i]? = some d → Same H H' → Q (.int ((i : Int) + 1)) H') ∧
  (d ∉ ds → ∀ H', (∀ b o, b ≠ md → b ≠ tl → H b = some o → H' b = some o) → TKeep H H' → SeA P w C H' p md tl (ds ++ [d]) → Q (.int ((ds.length : Int) + 1)) H')
theorem ok_mark (T : Txt K mg) : FnOk P w K mg base CX0 2 T.f_Sealer_mark T.d_Sealer_mark p_Sealer_mark (spMark P w T.C_Sealer) := by
  have G_spelled : FnOk P w K mg base CX0 1 T.f_spelled T.d_spelled p_spelled spSpell := ok_spelled T
  refine T.F_Sealer_mark.ok sc_Sealer_mark (fun vs H Q E h => ?_) (fun cdv A outer s H vs Q E hr h => ?_)
  · obtain ⟨p, md, tl, ds, v, d, rfl, _⟩ := h
    rfl
  · obtain ⟨p, md, tl, ds, v, d, rfl, ⟨dx, kvs, us, hp, hm, ht, htd, hnum, htx, hnod, hdp⟩, hd, hx, dd, dn, hl, k1, k2⟩ := h
    refine ⟨_, (pss_cons (ps_set (i := 2) sc_Sealer_mark.nd rfl (Or.inl rfl) (pe_call G_spelled (hr.mono (by decide)) rfl T.mg_spelled T.F_spelled.kp T.b_spelled .nil pass0 (pa_cons (pv 1) pa_nil)))
      (pss_cons (ps_if (pt_cmpR (op_ninTK (hu64 hr)) (pv 2) (pe_fld (pv 0) rfl) (by rfl)) (pss_cons (ps_expr (pe_bm PySem.F.plainAttrs_list PySem.F.slot_list_append PySem.F.type_list_append mt_append (pe_fld (pv 0) rfl) (pa_cons (pv 1) pa_nil)))
      (pss_one (ps_asg (pe_callB call_len_seq (by rfl) T.z_len PySem.boot_len (pa_cons (pe_fld (pv 0) rfl) pa_nil)) (pg_sub (pe_fld (pv 0) rfl) (pv 2) (set_tk (hu64 hr)))))) pss_nil)
      (pss_one (ps_ret (pe_ix (ix_tk (hu64 hr)) (pe_fld (pv 0) rfl) (pv 2) (fun _ _ => rfl)))))), ?_⟩
    refine ⟨_, rfl, v, d, rfl, hd, hx, dn, fun t H1 ht1 S1 hK => ?_⟩
    have hp1 := S1 _ _ hp
    have hm1 := S1 _ _ hm
    have htl1 := S1 _ _ ht
    have htd1 := htd.keep (sameTk S1)
    have hnum1 := hnum.keep (sameTk S1)
    have hd1 := hd.keep (sameTk S1)
    have hlen := hnum.length
    have hlu := htd.length
    refine ⟨_, rfl, _, rfl, p, T.C_Sealer, dx, _, _, rfl, hp1, T.cl_Sealer, T.na_Sealer__marks, rfl, t, md, spell d, kvs, rfl, rfl, hK.key, hm1, fun q hq => (hnum1.mem q hq).key, _, rfl, ?_⟩
    by_cases hin : d ∈ ds
    · obtain ⟨i, hi⟩ := List.mem_iff_getElem?.mp hin
      have e := hnum1.at hx htx hnod hi
      rw [show (!(atK kvs (spell d)).isSome) = false by rw [e]; rfl]
      refine iteF ?_
      refine ⟨_, rfl, p, T.C_Sealer, dx, _, _, rfl, hp1, T.cl_Sealer, T.na_Sealer__marks, rfl, _, rfl, t, md, spell d, kvs, _, rfl, rfl, hK.key, hm1, fun q hq => (hnum1.mem q hq).key, e, ?_⟩
      have := k1 i H1 hi S1
      rw [show ((0 + i : Nat) : Int) + 1 = (i : Int) + 1 by omega]
      exact this
    · have e := hnum1.none hx htx hin
      rw [show (!(atK kvs (spell d)).isSome) = true by rw [e]; rfl]
      refine iteT ?_
      have npt : p ≠ tl := fun z => by rw [z, htl1] at hp1; cases hp1
      have npm : p ≠ md := fun z => by rw [z, hm1] at hp1; exact (ins_mkd (Option.some.inj hp1).symm).elim
      have nmt : md ≠ tl := fun z => by rw [z, htl1] at hm1; exact (lst_mkd (Option.some.inj hm1)).elim
      refine ⟨_, rfl, p, T.C_Sealer, dx, _, _, rfl, hp1, T.cl_Sealer, T.na_Sealer__texts, rfl, .inl ⟨rfl, _, SqL.of htl1⟩, _, rfl, tl, us, v, rfl, rfl, htl1, small1000 (by omega), ?_⟩
      have K2 : TKeep H1 (upd H1 tl (.lst (us ++ [v]))) := TKeep.upd htl1
      have hp2 : upd H1 tl (.lst (us ++ [v])) p = _ := (upd_ne npt).trans hp1
      have hm2 : upd H1 tl (.lst (us ++ [v])) md = _ := (upd_ne nmt).trans hm1
      have hnum2 := hnum1.keep K2
      have hK2 := hK.keep K2
      refine ⟨_, rfl, p, T.C_Sealer, dx, _, _, rfl, hp2, T.cl_Sealer, T.na_Sealer__texts, rfl, tl, _, rfl, .inl (SqL.of upd_same), ?_⟩
      refine ⟨_, rfl, p, T.C_Sealer, dx, _, _, rfl, hp2, T.cl_Sealer, T.na_Sealer__marks, rfl, _, rfl, t, md, spell d, kvs, _, rfl, rfl, rfl, hK2.key, hm2, fun q hq => (hnum2.mem q hq).key, e, by omega, ?_⟩
      have en : (((us ++ [v]).length : Nat) : Int) = ((0 + ds.length : Nat) : Int) + 1 := by rw [List.length_append, List.length_singleton]; omega
      rw [en]
      have K3 : TKeep (upd H1 tl (.lst (us ++ [v]))) (upd (upd H1 tl (.lst (us ++ [v]))) md (MkD P w md (kvs ++ [(spell d, t, ((0 + ds.length : Nat) : Int) + 1)]))) := tkUpdM hm2
      have hnum3 : Num _ 0 (ds ++ [d]) (kvs ++ [(spell d, t, ((0 + ds.length : Nat) : Int) + 1)]) := (hnum2.keep K3).snoc (hK2.keep K3)
      have hx3 : txtAll (ds ++ [d]) = true := by rw [txtAll_app, htx]; simp [txtAll, hx]
      have hn3 : (ds ++ [d]).Nodup := List.nodup_append.mpr ⟨hnod, by simp, fun a ha b hb z => hin (by rw [List.mem_singleton.mp hb] at z; rw [← z]; exact ha)⟩
      have e3 := hnum3.at hx hx3 hn3 (i := ds.length) (by simp)
      refine ⟨_, rfl, p, T.C_Sealer, dx, _, _, rfl, by rw [upd_ne npm]; exact hp2, T.cl_Sealer, T.na_Sealer__marks, rfl, _, rfl, t, md, spell d, _, _, rfl, rfl, (hK2.keep K3).key, upd_same, fun q hq => (hnum3.mem q hq).key, e3, ?_⟩
      rw [show ((0 + ds.length : Nat) : Int) + 1 = (ds.length : Int) + 1 by omega] at *
      refine k2 hin _ (fun b o h1 h2 e => ?_) ((sameTk S1).trans (K2.trans K3)) ⟨dx, _, us ++ [v], by rw [upd_ne npm]; exact hp2, upd_same, by rw [upd_ne nmt.symm, upd_same], ((htd1.keep K2).snoc' (hd1.keep K2)).keep K3, hnum3, hx3, hn3, fun x hx => ?_⟩
      · rw [upd_ne h1, upd_ne h2]; exact S1 _ _ e
      · rcases List.mem_append.mp hx with hx | hx
        · exact hdp x hx
        · rw [List.mem_singleton.mp hx]; exact dd
end

section
variable {P : Program} {w : World} {K : PySem.W.Frag} {mg : Str → Option Value} {base : Heap}
theorem ok_state (T : Txt K mg) : FnOk P w K mg base CX0 1 T.f__law_state T.d__law_state p__law_state (spState K) := by
  refine T.F__law_state.ok sc__law_state (fun vs H Q E h => ?_) (fun cdv A outer s H vs Q E hr h => ?_)
  · obtain ⟨l, ns, rfl, _⟩ := h
    rfl
  · obtain ⟨l, ns, rfl, hS, hlen, k⟩ := h
    refine ⟨_, (pss_cons (ps_set (i := 1) sc__law_state.nd rfl (Or.inl rfl) pe_int)
      (pss_cons (ps_for PassesOwn.never rfl (pi_list (pv 0)) (pg_name (i := 2) sc__law_state.nd rfl (Or.inl rfl)) (pss_one (ps_set (i := 1) sc__law_state.nd rfl (Or.inl rfl) (pe_op op_modN (pe_callTy call_int1 (by rfl) T.z_int (by decide +kernel) (pa_cons (pe_op op_add (pe_op op_mul (pv 1) pe_int) (pv 2)) pa_nil)) pe_int))))
      (pss_one (ps_ret (pe_lst (pa_cons (pe_lc (own := [("cell", 2)]) (g := gName 2) (tt := tYes) rfl sc__law_state.nd (pi_list (pv 0)) (blkOk_by (N := n__law_state) (sc := defScope s__law_state) (by decide +kernel)) (fun _ _ _ _ _ => (pg_name (i := 2) sc__law_state.nd rfl (Or.inl rfl))) (fun _ _ _ _ _ => pts_nil) (fun _ _ _ _ _ => (pe_callB call_abs (by rfl) T.z_abs (by decide +kernel) (pa_cons (pv 2) pa_nil)))) (pa_cons (pe_op op_add (pv 1) pe_int) pa_nil))))))), ?_⟩
    refine ⟨_, rfl, l, rfl, ⟨_, hS⟩, for_list (K := K) (a := l) (xs := ns.map V.int) (fun i σ H' => ∃ (z : Int) (v : Option V), σ = [some (.ref l), some (.int z), v] ∧ H' = H ∧ 0 ≤ z ∧ z < 1000003)
      ⟨7, none, rfl, rfl, by decide, by decide⟩ (fun i σ H' _ ⟨_, _, _, e, _⟩ => e ▸ hS) ?_ ?_⟩
    · rintro i y σ H' hi ⟨z, v, rfl, rfl, h0, h1⟩
      obtain ⟨u, _, rfl⟩ := int_at hi
      refine ⟨_, rfl, _, _, rfl, rfl, .inl ⟨by omega, by omega⟩, _, rfl, _, _, rfl, rfl, .inl ⟨_, rfl, _, _, rfl, rfl, (by show (1000003 : Int) ≠ 0; decide), ?_⟩⟩
      exact ⟨_, _, rfl, rfl, by rw [Int.fmod_eq_emod_of_nonneg _ (by decide)]; omega, by rw [Int.fmod_eq_emod_of_nonneg _ (by decide)]; omega⟩
    · rintro σ H' ⟨z, v, rfl, rfl, h0, h1⟩
      refine ⟨_, rfl, l, rfl, ⟨_, hS⟩, fun D hD => lc_list (K := K) (xs := ns.map V.int) (fun i H2 => ∃ ms : List Int, H2 = upd H' D (.lst (ms.map V.int)) ∧ ms.length = i ∧ ∀ m ∈ ms, 0 ≤ m) ⟨[], rfl, rfl, by simp⟩ ?_ ?_ ?_⟩
      · rintro i H2 _ ⟨ms, rfl, _, _⟩
        exact Same.seq (fun b o e => by rw [upd_ne (ne_of_none e hD)]; exact e) hS
      · rintro i y H2 hi ⟨ms, rfl, hl, hp⟩
        obtain ⟨u, hu, rfl⟩ := int_at hi
        have hi2 : i < ns.length := (List.getElem?_eq_some_iff.mp hu).1
        refine ⟨rfl, _, rfl, _, rfl, _, upd_same, small1000 (by rw [List.length_map]; omega), ms ++ [if u < 0 then -u else u], ?_, by simp [hl], fun m hm => ?_⟩
        · rw [upd_upd, List.map_append]; rfl
        · rcases List.mem_append.mp hm with q | q
          · exact hp m q
          · rw [List.mem_singleton.mp q]; split <;> omega
      · rintro H2 ⟨ms, rfl, hl, hp⟩
        rw [List.length_map] at hl
        refine ⟨_, rfl, _, _, rfl, rfl, (by show 2 ≤ sizeLine; decide), fun a ha => ?_⟩
        have hD2 : D ≠ a := fun e => by rw [e, upd_same] at ha; cases ha
        refine k a D _ ?_ hD ⟨ms, _, hD2.symm, upd_same, by rw [upd_ne hD2, upd_same], by omega, hp, by omega, by omega⟩ fun b o e => ?_
        · rw [upd_ne hD2.symm] at ha
          exact ha
        · rw [upd_ne (fun q => ?_), upd_ne (ne_of_none e hD)]
          · exact e
          · rw [q] at e
            rw [upd_ne hD2.symm, e] at ha
            cases ha
theorem ok_draw (T : Txt K mg) : FnOk P w K mg base CX0 1 T.f__law_draw T.d__law_draw p__law_draw spDraw := by
  refine T.F__law_draw.ok sc__law_draw (fun vs H Q E h => ?_) (fun cdv A outer s H vs Q E hr h => ?_)
  · obtain ⟨a, c, m, rfl, _⟩ := h
    rfl
  · obtain ⟨a, c, m, rfl, hS, h1, h2, k⟩ := h
    have S0 := hS
    obtain ⟨ns, z, hac, ha, hc, hl, hp, z0, z1⟩ := hS
    refine ⟨_, (pss_cons (ps_set (i := 2) sc__law_draw.nd rfl (Or.inl rfl) (pe_ix ix_list (pv 0) pe_int (fun _ _ => rfl)))
      (pss_cons (ps_while PassesOwn.never (PW.pt (pw_and (pt_cmpR op_gt (pe_callB call_len_seq (by rfl) T.z_len PySem.boot_len (pa_cons (pv 2) pa_nil)) pe_int (nomark _)) (pw_and1 (pt_cmpR op_eq (pe_ix ix_list (pv 2) pe_int (fun _ _ => rfl)) pe_int (nomark _))))) (pss_one (ps_expr (pe_bm PySem.F.plainAttrs_list PySem.F.slot_list_pop PySem.F.type_list_pop mt_popAt (pv 2) (pa_cons pe_int pa_nil)))))
      (pss_cons (ps_if (pt_cmpR op_gt (pe_callB call_len_seq (by rfl) T.z_len PySem.boot_len (pa_cons (pv 2) pa_nil)) pe_int (nomark _)) (pss_cons (ps_set (i := 3) sc__law_draw.nd rfl (Or.inl rfl) (pe_ix ix_list (pv 2) pe_int (fun _ _ => rfl)))
      (pss_cons (ps_asg (pe_op op_fdivN (pv 3) (pv 1)) (pg_sub (pv 2) pe_int set_list))
      (pss_one (ps_ret (pe_op op_modN (pe_callTy call_int1 (by rfl) T.z_int (by decide +kernel) (pa_cons (pv 3) pa_nil)) (pv 1)))))) pss_nil)
      (pss_cons (ps_set (i := 4) sc__law_draw.nd rfl (Or.inl rfl) (pe_op op_modN (pe_callTy call_int1 (by rfl) T.z_int (by decide +kernel) (pa_cons (pe_op op_add (pe_op op_mul (pe_ix ix_list (pv 0) pe_int (fun _ _ => rfl)) pe_int) pe_int) pa_nil)) pe_int))
      (pss_cons (ps_asg (pv 4) (pg_sub (pv 0) pe_int set_list))
      (pss_one (ps_ret (pe_op op_modN (pe_callTy call_int1 (by rfl) T.z_int (by decide +kernel) (pa_cons (pe_op op_fdivN (pv 4) pe_int) pa_nil)) (pv 1))))))))), ?_⟩
    refine ⟨_, rfl, a, _, _, _, rfl, rfl, SqL.of ha, rfl, ?_⟩
    have hac' : c ≠ a := fun e => hac e.symm
    have hA : ∀ o, (upd H c o) a = some (.lst [.ref c, .int z]) := fun o => by rw [upd_ne hac]; exact ha
    have fin : ∀ (xs : List Int), xs.length ≤ 63 → (∀ n ∈ xs, 0 ≤ n) → StA a c (upd H c (.lst (xs.map V.int))) := fun xs q1 q2 => ⟨xs, z, hac, hA _, upd_same, q1, q2, z0, z1⟩
    have hm : m ≠ 0 := by omega
    have hmm : m.natAbs < 1073741824 := by omega
    refine ⟨fun n σ H' => ∃ (ns' : List Int), n = ns'.length ∧ σ = [some (.ref a), some (.int m), some (.ref c), none, none] ∧ H' = upd H c (.lst (ns'.map V.int)) ∧ ns'.length ≤ 63 ∧ ∀ n ∈ ns', 0 ≤ n,
      ⟨_, ns, rfl, rfl, (upd_eq hc).symm, hl, hp⟩, ?_⟩
    rintro n0 σ H' ⟨ns', rfl, rfl, rfl, hl', hp'⟩
    refine ⟨_, rfl, c, _, rfl, .inl (SqL.of upd_same), _, _, rfl, rfl, _, rfl, ?_⟩
    cases ns' with
    | nil =>
      refine iteF ?_
      refine iteF ?_
      refine ⟨_, rfl, c, _, rfl, .inl (SqL.of upd_same), _, _, rfl, rfl, _, rfl, ?_⟩
      refine iteF ?_
      refine ⟨_, rfl, a, _, _, _, rfl, rfl, SqL.of (hA _), rfl, _, _, rfl, rfl, .inl ⟨by omega, by omega⟩, _, _, rfl, rfl, .inl ⟨_, rfl, _, _, rfl, rfl, (by show (2147483647 : Int) ≠ 0; decide), ?_⟩⟩
      have q0 : 0 ≤ Int.fmod (z * 48271 + 12345) 2147483647 := by rw [Int.fmod_eq_emod_of_nonneg _ (by decide)]; omega
      have q1 : Int.fmod (z * 48271 + 12345) 2147483647 < 2147483647 := by rw [Int.fmod_eq_emod_of_nonneg _ (by decide)]; omega
      refine ⟨_, rfl, _, rfl, a, _, _, 1, rfl, rfl, hA _, rfl, ?_⟩
      refine ⟨_, rfl, _, _, rfl, rfl, ⟨by decide, by decide⟩, .inl ⟨_, rfl, _, rfl, _, _, rfl, rfl, hm, ?_⟩⟩
      refine k _ _ (by rw [Int.fmod_eq_emod_of_nonneg _ (by omega)]; exact Int.emod_nonneg _ hm) (by rw [Int.fmod_eq_emod_of_nonneg _ (by omega)]; exact Int.emod_lt_of_pos _ (by omega))
        ⟨[], Int.fmod (z * 48271 + 12345) 2147483647, hac, upd_same, by rw [upd_ne hac', upd_same], by decide, by simp, q0, q1⟩ (Kp.refl H).upd2.upd1
    | cons n r =>
      have n0 : 0 ≤ n := hp' n List.mem_cons_self
      have len0 : (0 : Int) < (((n :: r).map V.int).length : Nat) := by simp only [List.length_map, List.length_cons]; omega
      refine iteDT len0 ?_
      refine ⟨_, rfl, c, _, _, _, rfl, rfl, SqL.of upd_same, atI_nat (j := 0) rfl, rfl, _, rfl, ?_⟩
      refine ite2 (fun e => ?_) (fun e => ?_)
      · refine ⟨_, fun _ _ h => h, ?_⟩
        refine ⟨_, rfl, .inl ⟨rfl, _, SqL.of upd_same⟩, c, _, 0, 0, _, rfl, rfl, upd_same, by decide, by decide, seqIx_nat (j := 0) (by simp), rfl, ?_⟩
        refine ⟨r.length, Nat.lt_succ_self _, r, rfl, rfl, by rw [upd_upd]; rfl, by simp only [List.length_cons] at hl'; omega, fun x hx => hp' x (List.mem_cons_of_mem _ hx)⟩
      · refine ⟨_, rfl, c, _, rfl, .inl (SqL.of upd_same), _, _, rfl, rfl, _, rfl, ?_⟩
        refine iteDT len0 ?_
        refine ⟨_, rfl, c, _, _, _, rfl, rfl, SqL.of upd_same, atI_nat (j := 0) rfl, ?_⟩
        refine ⟨_, rfl, _, rfl, _, _, rfl, rfl, ⟨hm, hmm⟩, _, rfl, c, _, _, 0, rfl, rfl, upd_same, ixN_nat (j := 0) (by simp), ?_⟩
        refine ⟨_, rfl, .inl ⟨_, rfl, _, rfl, _, _, rfl, rfl, hm, ?_⟩⟩
        refine k _ _ (by rw [Int.fmod_eq_emod_of_nonneg _ (by omega)]; exact Int.emod_nonneg _ hm) (by rw [Int.fmod_eq_emod_of_nonneg _ (by omega)]; exact Int.emod_lt_of_pos _ (by omega))
          ?_ (Kp.refl H).upd2.upd2
        rw [upd_upd]
        refine fin (n.fdiv m :: r) hl' fun x hx => ?_
        rcases List.mem_cons.mp hx with rfl | hx
        · rw [Int.fdiv_eq_ediv_of_nonneg _ (by omega)]
          exact Int.ediv_nonneg n0 (by omega)
        · exact hp' x (List.mem_cons_of_mem _ hx)

end
theorem pickQ {a c q : Addr} {H1 H2 : Hp} {o : HO} (S1 : StA a c H1) (hq : H1 q = none) (K2 : Kp a c (upd H1 q o) H2) : H2 q = some o := by
  refine K2 q o (fun e => ?_) (fun e => ?_) upd_same
  · obtain ⟨x, h⟩ := S1.some1
    rw [← e, hq] at h; cases h
  · obtain ⟨x, h⟩ := S1.some2
    rw [← e, hq] at h; cases h
theorem kpTk {a c : Addr} {H H' : Hp} (S : StA a c H) (k : Kp a c H H') : TKeep H H' := fun b vs e => by
  obtain ⟨ns, z, _, h1, h2, _⟩ := S
  exact k b _ (fun q => by rw [q, h1] at e; cases e) (fun q => by rw [q, h2] at e; cases e) e
section
variable {P : Program} {w : World} {K : PySem.W.Frag} {mg : Str → Option Value} {base : Heap}
def spText : Sp := fun vs H Q _ => ∃ (a c : Addr), vs = [.ref a, .int 4] ∧ StA a c H ∧ ∀ (t : Addr) (d : PyData) (H' : Hp), Td H' (.ref t) d → txt d = true → nd d ≤ 20 → d.depth ≤ 3 → StA a c H' → Kp a c H H' → Q (.ref t) H'
theorem ok_text (T : Txt K mg) : FnOk P w K mg base CX0 2 T.f__law_text T.d__law_text p__law_text spText := by
  have G__law_draw : FnOk P w K mg base CX0 1 T.f__law_draw T.d__law_draw p__law_draw spDraw := ok_draw T
  refine T.F__law_text.ok sc__law_text (fun vs H Q E h => ?_) (fun cdv A outer s H vs Q E hr h => ?_)
  · obtain ⟨a, c, rfl, _⟩ := h
    rfl
  · obtain ⟨a, c, rfl, S0, k⟩ := h
    refine ⟨_, (pss_cons (ps_set (i := 2) sc__law_text.nd rfl (Or.inl rfl) (pe_lst pa_nil))
      (pss_cons (ps_for PassesOwn.never rfl (pi_range1 rfl T.z_range (pa_cons (pe_call G__law_draw (hr.mono (by decide)) rfl T.mg__law_draw T.F__law_draw.kp T.b__law_draw .nil pass0 (pa_cons (pv 0) (pa_cons (pv 1) pa_nil))) pa_nil)) (pg_name (i := 3) sc__law_text.nd rfl (Or.inl rfl)) (pss_cons (ps_set (i := 4) sc__law_text.nd rfl (Or.inl rfl) (pe_call G__law_draw (hr.mono (by decide)) rfl T.mg__law_draw T.F__law_draw.kp T.b__law_draw .nil pass0 (pa_cons (pv 0) (pa_cons pe_int pa_nil))))
      (pss_one (ps_if (pt_cmpR op_eq (pv 4) pe_int (nomark _)) (pss_one (ps_expr (pe_bm PySem.F.plainAttrs_list PySem.F.slot_list_append PySem.F.type_list_append mt_append (pv 2) (pa_cons (pe_call G__law_draw (hr.mono (by decide)) rfl T.mg__law_draw T.F__law_draw.kp T.b__law_draw .nil pass0 (pa_cons (pv 0) (pa_cons pe_int pa_nil))) pa_nil)))) (pss_one (ps_if (pt_cmpR op_eq (pv 4) pe_int (nomark _)) (pss_one (ps_expr (pe_bm PySem.F.plainAttrs_list PySem.F.slot_list_append PySem.F.type_list_append mt_append (pv 2) (pa_cons (pe_ix ix_list (pe_lst (pa_cons pe_str (pa_cons pe_str (pa_cons pe_str pa_nil)))) (pe_call G__law_draw (hr.mono (by decide)) rfl T.mg__law_draw T.F__law_draw.kp T.b__law_draw .nil pass0 (pa_cons (pv 0) (pa_cons pe_int pa_nil))) (fun _ _ => rfl)) pa_nil)))) (pss_one (ps_expr (pe_bm PySem.F.plainAttrs_list PySem.F.slot_list_append PySem.F.type_list_append mt_append (pv 2) (pa_cons (pe_tup (pa_cons (pe_call G__law_draw (hr.mono (by decide)) rfl T.mg__law_draw T.F__law_draw.kp T.b__law_draw .nil pass0 (pa_cons (pv 0) (pa_cons pe_int pa_nil))) (pa_cons (pe_call G__law_draw (hr.mono (by decide)) rfl T.mg__law_draw T.F__law_draw.kp T.b__law_draw .nil pass0 (pa_cons (pv 0) (pa_cons pe_int pa_nil))) pa_nil))) pa_nil))))))))))
      (pss_one (ps_ret (pe_callTy call_tuple_of (by rfl) T.z_tuple (by decide +kernel) (pa_cons (pv 2) pa_nil)))))), ?_⟩
    refine ⟨Nat.zero_le _, fun lr hlr => ?_⟩
    have S1 : StA a c (upd H lr (.lst [])) := S0.keep (Same.new hlr)
    have na : lr ≠ a := fun e => by obtain ⟨o, z⟩ := S0.some1; rw [← e, hlr] at z; cases z
    have nc : lr ≠ c := fun e => by obtain ⟨o, z⟩ := S0.some2; rw [← e, hlr] at z; cases z
    refine ⟨_, rfl, _, rfl, a, c, 4, rfl, S1, by decide, by decide, fun r H2 r0 r4 S2 K2 => ⟨_, rfl, by omega, by omega, for_range (n := r.toNat) (fun i σ H' => ∃ (vs : List V) (ds : List PyData) (p1 p2 : Option V), σ = [some (.ref a), some (.int 4), some (.ref lr), p1, p2] ∧
      StA a c H' ∧ Kp a c H H' ∧ H' lr = some (.lst vs) ∧ TdAll H' vs ds ∧ txtAll ds = true ∧ ndAll ds ≤ 3 * i ∧ PyData.depthAll ds ≤ 1 ∧ vs.length = i) ?_ ?_ ?_⟩⟩
    · exact ⟨[], [], none, none, rfl, S2, (Kp.same (Same.new hlr)).trans K2, K2 _ _ na nc upd_same, .nil, rfl, Nat.le_refl _, Nat.zero_le _, rfl⟩
    · rintro i σ H3 hi ⟨vs, ds, p1, p2, rfl, S3, K3, hl3, ht3, hx3, hn3, hd3, hv3⟩
      refine ⟨_, rfl, a, c, 3, rfl, S3, by decide, by decide, fun r1 H4 a1 b1 S4 K4 => ?_⟩
      have T4 := kpTk S3 K4
      -- a new item
      have add : ∀ (H5 : Hp) (v : V) (d : PyData) (p3 p4 : Option V), StA a c H5 → Kp a c H4 H5 → Td H5 v d → txt d = true → nd d ≤ 3 → d.depth ≤ 1 → ∃ (vs_1 : List V) (ds : List PyData) (p1 p2 : Option V), [some (.ref a), some (.int 4), some (.ref lr), p3, p4] = [some (.ref a), some (.int 4), some (.ref lr), p1, p2] ∧
          StA a c (upd H5 lr (.lst (vs ++ [v]))) ∧ Kp a c H (upd H5 lr (.lst (vs ++ [v]))) ∧ (upd H5 lr (.lst (vs ++ [v]))) lr = some (.lst vs_1) ∧ TdAll (upd H5 lr (.lst (vs ++ [v]))) vs_1 ds ∧ txtAll ds = true ∧ ndAll ds ≤ 3 * (i + 1) ∧ PyData.depthAll ds ≤ 1 ∧ vs_1.length = i + 1 := fun H5 v d p3 p4 S5 K5 hd hx hn hdp => by
        have hl5 := K5 _ _ na nc (K4 _ _ na nc hl3)
        have T6 : TKeep H5 (upd H5 lr (.lst (vs ++ [v]))) := TKeep.upd hl5
        refine ⟨vs ++ [v], ds ++ [d], _, _, rfl, ?_, fun b o n1 n2 e => ?_, upd_same, ((ht3.keep (T4.trans (kpTk S4 K5))).app (.cons hd .nil)).keep T6, by rw [txtAll_app, hx3]; simp [txtAll, hx], ?_, ?_, by rw [List.length_append, hv3]; rfl⟩
        · obtain ⟨ns, z, q1, q2, q3, q4⟩ := S5
          exact ⟨ns, z, q1, by rw [upd_ne na.symm]; exact q2, by rw [upd_ne nc.symm]; exact q3, q4⟩
        · rw [upd_ne (fun z => by rw [z, hlr] at e; cases e)]
          exact K5 _ _ n1 n2 (K4 _ _ n1 n2 (K3 _ _ n1 n2 e))
        · rw [ndAll_app]; simp only [ndAll]; omega
        · have : ∀ es : List PyData, PyData.depthAll (es ++ [d]) ≤ max (PyData.depthAll es) d.depth := fun es => by
            induction es with
            | nil => simp [PyData.depthAll]
            | cons x es ih => simp only [List.cons_append, PyData.depthAll]; omega
          have := this ds
          omega
      have hl4 := K4 _ _ na nc hl3
      refine ⟨_, rfl, rfl, _, rfl, ite2 (fun e => ?_) (fun e => ?_)⟩
      · refine ⟨_, rfl, .inl ⟨rfl, _, SqL.of hl4⟩, _, rfl, a, c, 3, rfl, S4, by decide, by decide, fun r2 H5 a2 b2 S5 K5 => ?_⟩
        refine ⟨lr, _, _, rfl, rfl, K5 _ _ na nc hl4, small1000 (by omega), ?_⟩
        exact add H5 (.int r2) (.int r2) _ _ S5 K5 (.int r2) rfl (by simp [nd]) (by simp [PyData.depth])
      · refine ⟨_, rfl, rfl, _, rfl, ite2 (fun e => ?_) (fun e => ?_)⟩
        · refine ⟨_, rfl, .inl ⟨rfl, _, SqL.of hl4⟩, (by show 3 ≤ sizeLine; decide), fun q hq => ?_⟩
          refine ⟨_, rfl, a, c, 3, rfl, S4.keep (Same.new hq), by decide, by decide, fun r2 H5 a2 b2 S5 K5 => ?_⟩
          have hq5 := pickQ S4 hq K5
          have K45 : Kp a c H4 H5 := (Kp.same (Same.new hq)).trans K5
          obtain ⟨z, hz, zo⟩ : ∃ z : Str, ([V.str "leaf", .str "node", .str ""] : List V)[r2.toNat]? = some (.str z) ∧ PyData.strOk z = true := by
            have o : r2 = 0 ∨ r2 = 1 ∨ r2 = 2 := by omega
            rcases o with rfl | rfl | rfl
            · exact ⟨"leaf", rfl, by decide +kernel⟩
            · exact ⟨"node", rfl, by decide +kernel⟩
            · exact ⟨"", rfl, by decide +kernel⟩
          refine ⟨q, _, _, _, rfl, rfl, SqL.of hq5, at_of (j := r2.toNat) (by omega) hz, lr, _, _, rfl, rfl, K45 _ _ na nc hl4, small1000 (by omega), ?_⟩
          exact add H5 (.str z) (.str z) _ _ S5 K45 (.str z zo) rfl (by simp [nd]) (by simp [PyData.depth])
        · refine ⟨_, rfl, .inl ⟨rfl, _, SqL.of hl4⟩, _, rfl, a, c, 2, rfl, S4, by decide, by decide, fun r2 H5 a2 b2 S5 K5 => ?_⟩
          refine ⟨_, rfl, a, c, 2, rfl, S5, by decide, by decide, fun r3 H6 a3 b3 S6 K6 => ?_⟩
          refine ⟨(by show 2 ≤ sizeLine; decide), fun q hq => ?_⟩
          have Sq : Same H6 (upd H6 q (.tup [.int r2, .int r3])) := Same.new hq
          have K46 : Kp a c H4 (upd H6 q (.tup [.int r2, .int r3])) := K5.trans (K6.trans (Kp.same Sq))
          refine ⟨lr, _, _, rfl, rfl, K46 _ _ na nc hl4, small1000 (by omega), ?_⟩
          exact add _ (.ref q) (.tuple [.int r2, .int r3]) _ _ (S6.keep Sq) K46 (.tup upd_same (.cons (.int _) (.cons (.int _) .nil))) rfl (by simp [nd, ndAll]) (by simp [PyData.depth, PyData.depthAll])
    · rintro σ H3 ⟨vs, ds, p1, p2, rfl, S3, K3, hl3, ht3, hx3, hn3, hd3, hv3⟩
      refine ⟨_, rfl, lr, _, rfl, .inl ⟨SqL.of hl3, fun t hnt => ?_⟩⟩
      have St : Same H3 (upd H3 t (.tup vs)) := Same.new hnt
      refine k t (.tuple ds) _ (.tup upd_same (ht3.keep (sameTk St))) hx3 (by simp only [nd]; omega) (by simp only [PyData.depth]; omega) (S3.keep St) (K3.trans (Kp.same St))
end

def spLaw (K : PySem.W.Frag) : Sp := fun vs H Q _ => ∃ (a : Addr) (ns : List Int), vs = [.ref a] ∧ SqL K H a (ns.map V.int) ∧ ns.length ≤ 63 ∧ ∀ H', Q (.bl true) H'
def loopBody : Stmt → List Stmt
  | .For (body := b) .. => b
  | _ => []
abbrev lawLoop : List Stmt := loopBody ((defBody s_law).getD 4 (.Pass ⟨0, 0, 0, 0⟩))
abbrev XL (P : Program) (w : World) (K : PySem.W.Frag) (mg : Str → Option Value) (base : Heap) (fL : Addr) (cdv : Value) (A : Around) (outer : List Env) (s : Shared) (H : Hp) (E : XK) : Cx :=
  (cxOf CX0 P w K mg base n_law "law" (defScope s_law) fL cdv A outer s H E).nox
structure LN (a c md tl md2 tl2 lt : Addr) : Prop where
  lta : lt ≠ a
  ltc : lt ≠ c
  tla : tl ≠ a
  tlc : tl ≠ c
  t2a : tl2 ≠ a
  t2c : tl2 ≠ c
  ltt : lt ≠ tl
  lt2 : lt ≠ tl2
  tt2 : tl ≠ tl2
  mm2 : md ≠ md2
structure LI (P : Program) (w : World) (C a c p md tl p2 md2 tl2 lt : Addr) (ds : List PyData) (H : Hp) : Prop where
  st : StA a c H
  s1 : SeA P w C H p md tl ds
  s2 : SeA P w C H p2 md2 tl2 []
  tx : ∃ vs, H lt = some (.lst vs) ∧ TdAll H vs ds
  sm : ∀ d ∈ ds, nd d ≤ 20 ∧ d.depth ≤ 3
theorem LI.same {P : Program} {w : World} {C a c p md tl p2 md2 tl2 lt : Addr} {ds : List PyData} {H H' : Hp} (I : LI P w C a c p md tl p2 md2 tl2 lt ds H) (S : Same H H') : LI P w C a c p md tl p2 md2 tl2 lt ds H' := by
  obtain ⟨vs, h1, h2⟩ := I.tx
  exact ⟨I.st.keep S, I.s1.same S, I.s2.same S, ⟨vs, S _ _ h1, h2.keep (sameTk S)⟩, I.sm⟩
theorem se_kp {P : Program} {w : World} {C a c p md tl : Addr} {ds : List PyData} {H H' : Hp} (h : SeA P w C H p md tl ds) (S : StA a c H) (k : Kp a c H H') (h1 : tl ≠ a) (h2 : tl ≠ c) : SeA P w C H' p md tl ds := by
  obtain ⟨dx, kvs, vs, e1, e2, e3, _⟩ := id h
  obtain ⟨ns, z, _, q1, q2, _⟩ := id S
  refine h.keep (kpTk S k) (fun o e => k _ _ (fun y => ?_) (fun y => ?_) e) (fun o e => k _ _ (fun y => ?_) (fun y => ?_) e) fun o e => k _ _ h1 h2 e
  · rw [y, q1] at e1; cases e1
  · rw [y, q2] at e1; cases e1
  · rw [y, q1] at e2; exact (lst_mkd (Option.some.inj e2)).elim
  · rw [y, q2] at e2; exact (lst_mkd (Option.some.inj e2)).elim
theorem LI.kp {P : Program} {w : World} {C a c p md tl p2 md2 tl2 lt : Addr} {ds : List PyData} {H H' : Hp} (N : LN a c md tl md2 tl2 lt) (I : LI P w C a c p md tl p2 md2 tl2 lt ds H) (S : StA a c H') (k : Kp a c H H') : LI P w C a c p md tl p2 md2 tl2 lt ds H' := by
  obtain ⟨vs, h1, h2⟩ := I.tx
  exact ⟨S, se_kp I.s1 I.st k N.tla N.tlc, se_kp I.s2 I.st k N.t2a N.t2c, ⟨vs, k _ _ N.lta N.ltc h1, h2.keep (kpTk I.st k)⟩, I.sm⟩
theorem TdAll.shp {H : Hp} {vs : List V} {ds : List PyData} (h : TdAll H vs ds) (n : ∀ d ∈ ds, d.depth ≤ 3) : SeqAt.shaped (.list ds) = true := by
  have dd : PyData.depthAll ds ≤ 3 := by
    clear h
    induction ds with
    | nil => exact Nat.zero_le _
    | cons d ds ih =>
      have := n d List.mem_cons_self
      have := ih fun e he => n e (List.mem_cons_of_mem _ he)
      simp only [PyData.depthAll]
      omega
  simp only [SeqAt.shaped, PyData.canLay0, h.lay, Bool.true_and]
  refine decide_eq_true ?_
  simp only [PyData.depth]
  omega
theorem td_get {H : Hp} {vs : List V} {ds : List PyData} (h : TdAll H vs ds) {i : Nat} {d : PyData} (hd : ds[i]? = some d) : ∃ v, Td H v d := by
  have hi : i < vs.length := by rw [h.length]; exact (List.getElem?_eq_some_iff.mp hd).1
  obtain ⟨d', e1, e2⟩ := h.get (List.getElem?_eq_getElem hi)
  rw [hd] at e1
  cases e1
  exact ⟨_, e2⟩
/-- what is not among the texts is not known -/
theorem kn_out {H : Hp} {ds : List PyData} {v : V} {da : PyData} {m : Int} (hv : Td H v da) (hx : txtAll ds = true) (ht : ∀ d ∈ ds, ∃ u, Td H u d) (hno : (ds.any fun z => PyData.eqv z da) = false) : kn ds da m = false := by
  unfold kn
  split
  · cases e : ds[(m - 1).toNat]? with
    | none => rfl
    | some z =>
      show PyData.eqv da z = false
      have hz := List.mem_of_getElem? e
      cases q : PyData.eqv da z with
      | false => rfl
      | true =>
        have e1 := (eqv_txt hv (txtAll_mem hx hz)).mp q
        obtain ⟨u, hu⟩ := ht z hz
        have e2 := (eqv_txt hu (txtAll_mem hx hz)).mpr rfl
        have := List.any_eq_false.mp hno z hz
        rw [e1] at this
        exact absurd e2 this
  · rfl
section
variable {P : Program} {w : World} {K : PySem.W.Frag} {mg : Str → Option Value} {base : Heap} {cdv : Value} {A : Around} {outer : List Env} {s0 : Shared} {H0 : Hp} {E : XK}
theorem law_t6 (T : Txt K mg) (hr : Room 3 (A.deeper (PyProof.Rows.envOfC "law" (defScope s_law) s0.heap.objs.size T.f_law cdv))) :
    ∃ t, PSs (XL P w K mg base T.f_law cdv A outer s0 H0 E) (lawLoop.drop 6) t ∧ ∀ (D : Ends) (a c p md tl p2 md2 tl2 lt l0 tx : Addr) (ds : List PyData) (d : PyData) (k m to an : Option V) (due : V) (H : Hp), LI P w T.C_Sealer a c p md tl p2 md2 tl2 lt ds H → Td H (.ref tx) d → txt d = true → nd d ≤ 20 → d.depth ≤ 3 →
      (∀ an' H', LI P w T.C_Sealer a c p md tl p2 md2 tl2 lt ds H' → D.nx [some (.ref l0), some (.ref a), some (.ref p), some (.ref p2), some (.ref lt), k, some (.ref tx), some due, m, to, an'] H') →
      t D [some (.ref l0), some (.ref a), some (.ref p), some (.ref p2), some (.ref lt), k, some (.ref tx), some due, m, to, an] H := by
  have G_Sealer_knows : FnOk P w K mg base CX0 2 T.f_Sealer_knows T.d_Sealer_knows p_Sealer_knows (spKnows P w T.C_Sealer) := ok_knows T
  refine ⟨_, (pss_one (ps_for PassesOwn.never rfl (pi_list (pe_lst (pa_cons pe_non (pa_cons pe_int (pa_cons pe_str (pa_cons (pe_tup (pa_cons (pv 6) pa_nil)) pa_nil)))))) (pg_name (i := 10) sc_law.nd rfl (Or.inl rfl)) (pss_one (ps_if (PW.pt (pw_and (pt_cmpR (op_notInD (hu65 hr)) (pv 10) (pv 4) (by rfl)) (pw_and1 (pt_cmpR op_notBl (pe_meth (pv 2) T.cl_Sealer T.m_Sealer_knows G_Sealer_knows (hr.mono (by decide)) T.b_Sealer_knows .nil pass0 (pa_cons (pv 10) (pa_cons pe_int pa_nil))) pe_bl (nomark _))))) (pss_one (ps_ret pe_bl)) pss_nil)))), ?_⟩
  intro D a c p md tl p2 md2 tl2 lt l0 tx ds d k m to an due H I hd hx hn hdp kk
  refine ⟨_, rfl, (by show 1 ≤ sizeLine; decide), fun q hq => ⟨(by show 4 ≤ sizeLine; decide), fun lq hlq => ?_⟩⟩
  have Sq : Same H (upd H q (.tup [.ref tx])) := Same.new hq
  have nql : q ≠ lq := fun z => by rw [← z, upd_same] at hlq; cases hlq
  have S1 := Sq.trans (Same.new (o := .lst [.non, .int 3, .str "leaf", .ref q]) hlq)
  refine ⟨lq, rfl, ⟨_, SqL.of upd_same⟩, for_list (K := K) (a := lq) (xs := [.non, .int 3, .str "leaf", .ref q]) (fun i σ H' => ∃ an' : Option V, σ = [some (.ref l0), some (.ref a), some (.ref p), some (.ref p2), some (.ref lt), k, some (.ref tx), some due, m, to, an'] ∧
    Same H H' ∧ H' q = some (.tup [.ref tx]) ∧ H' lq = some (.lst [.non, .int 3, .str "leaf", .ref q])) ⟨an, rfl, S1, by rw [upd_ne nql, upd_same], upd_same⟩ (fun i σ H' _ ⟨_, _, _, _, h⟩ => SqL.of h) ?_ ?_⟩
  · rintro i y σ H2 hi ⟨an', rfl, S2, hq2, hl2⟩
    have I2 := I.same S2
    have hd2 := hd.keep (sameTk S2)
    obtain ⟨vs, hv1, hv2⟩ := I2.tx
    have htx : txtAll ds = true := by obtain ⟨_, _, _, _, _, _, _, _, h, _⟩ := I2.s1; exact h
    obtain ⟨da, ha, hna, hda⟩ : ∃ da, Td H2 y da ∧ nd da ≤ 200 ∧ da.depth ≤ 60 := by
      match i, hi with
      | 0, hi => cases hi; exact ⟨_, .non, by simp [nd], by simp [PyData.depth]⟩
      | 1, hi => cases hi; exact ⟨_, .int 3, by simp [nd], by simp [PyData.depth]⟩
      | 2, hi => cases hi; exact ⟨_, .str "leaf" (by decide +kernel), by simp [nd], by simp [PyData.depth]⟩
      | 3, hi => cases hi; exact ⟨_, .tup hq2 (.cons hd2 .nil), by simp only [nd, ndAll]; omega, by simp only [PyData.depth, PyData.depthAll]; omega⟩
      | n + 4, hi => exact absurd (show (([] : List V)[n]?) = some y from hi) (by simp)
    refine ⟨_, rfl, _, rfl, da, ds, ha.dp, .lst (SqL.of hv1) hv2.dp, ha.shaped (by omega), hv2.shp fun e he => (I.sm e he).2, _, rfl, ?_⟩
    cases hany : (ds.any fun z => PyData.eqv z da) with
    | true =>
      refine iteF ?_
      refine iteF ?_
      exact ⟨_, rfl, S2, hq2, hl2⟩
    | false =>
      refine iteT ?_
      obtain ⟨dx, _, _, hp, _⟩ := id I2.s1
      refine ⟨_, rfl, p, dx, _, rfl, hp, rfl, _, rfl, p, md, tl, ds, y, da, 1, rfl, I2.s1, ha, hda, hna, fun H3 S3 => ?_⟩
      rw [kn_out ha htx (fun e he => let ⟨j, hj⟩ := List.mem_iff_getElem?.mp he; td_get hv2 hj) hany]
      refine ⟨false, false, rfl, rfl, _, rfl, iteF ?_⟩
      exact ⟨_, rfl, S2.trans S3, S3 _ _ hq2, S3 _ _ hl2⟩
  · rintro σ H2 ⟨an', rfl, S2, hq2, hl2⟩
    exact kk an' H2 (I.same S2)
end

/-- the number that a text is due -/
def Due (ds : List PyData) (d : PyData) (n : Int) : Prop := (∀ i : Nat, ds[i]? = some d → n = (i : Int) + 1) ∧ (d ∉ ds → n = 0)
theorem kn_self {H : Hp} {ds : List PyData} {d : PyData} {v : V} {i : Nat} (hd : Td H v d) (hx : txt d = true) (hi : ds[i]? = some d) : kn ds d ((i : Int) + 1) = true := by
  unfold kn
  rw [if_pos (by omega), show ((i : Int) + 1 - 1).toNat = i by omega, hi]
  exact (eqv_txt hd hx).mpr rfl
theorem SeA.facts {P : Program} {w : World} {C : Addr} {H : Hp} {p md tl : Addr} {ds : List PyData} (h : SeA P w C H p md tl ds) : txtAll ds = true ∧ ds.Nodup := by
  obtain ⟨_, _, _, _, _, _, _, _, h1, h2, _⟩ := h
  exact ⟨h1, h2⟩
section
variable {P : Program} {w : World} {K : PySem.W.Frag} {mg : Str → Option Value} {base : Heap} {cdv : Value} {A : Around} {outer : List Env} {s0 : Shared} {H0 : Hp} {E : XK}
theorem law_t4 (T : Txt K mg) (hr : Room 3 (A.deeper (PyProof.Rows.envOfC "law" (defScope s_law) s0.heap.objs.size T.f_law cdv))) :
    ∃ t, PSs (XL P w K mg base T.f_law cdv A outer s0 H0 E) (lawLoop.drop 4) t ∧ ∀ (D : Ends) (a c p md tl p2 md2 tl2 lt l0 tx : Addr) (ds : List PyData) (d : PyData) (k m to an : Option V) (n : Int) (H : Hp), LN a c md tl md2 tl2 lt → LI P w T.C_Sealer a c p md tl p2 md2 tl2 lt ds H → Td H (.ref tx) d → txt d = true → nd d ≤ 20 → d.depth ≤ 3 →
      Due ds d n → ds.length ≤ 90 → (∀ ds' due' an' H', ds'.length ≤ ds.length + 1 → LI P w T.C_Sealer a c p md tl p2 md2 tl2 lt ds' H' → D.nx [some (.ref l0), some (.ref a), some (.ref p), some (.ref p2), some (.ref lt), k, some (.ref tx), some due', m, to, an'] H') →
      t D [some (.ref l0), some (.ref a), some (.ref p), some (.ref p2), some (.ref lt), k, some (.ref tx), some (.int n), m, to, an] H := by
  have G_Sealer_knows : FnOk P w K mg base CX0 2 T.f_Sealer_knows T.d_Sealer_knows p_Sealer_knows (spKnows P w T.C_Sealer) := ok_knows T
  have G_Sealer_mark : FnOk P w K mg base CX0 2 T.f_Sealer_mark T.d_Sealer_mark p_Sealer_mark (spMark P w T.C_Sealer) := ok_mark T
  have G__law_draw : FnOk P w K mg base CX0 1 T.f__law_draw T.d__law_draw p__law_draw spDraw := ok_draw T
  obtain ⟨t6, h6, k6⟩ := law_t6 (E := E) (H0 := H0) (s0 := s0) (outer := outer) (base := base) (P := P) (w := w) T hr
  refine ⟨_, (pss_cons (ps_if (pt_cmpR op_notBl (pe_meth (pv 3) T.cl_Sealer T.m_Sealer_knows G_Sealer_knows (hr.mono (by decide)) T.b_Sealer_knows .nil pass0 (pa_cons (pv 6) (pa_cons pe_int pa_nil))) pe_bl (nomark _)) (pss_one (ps_ret pe_bl)) pss_nil)
      (pss_cons (ps_if (pt_cmpR op_gt (pe_call G__law_draw (hr.mono (by decide)) rfl T.mg__law_draw T.F__law_draw.kp T.b__law_draw .nil pass0 (pa_cons (pv 1) (pa_cons pe_int pa_nil))) pe_int (nomark _)) (pss_cons (ps_if (pt_cmpR op_eq (pv 7) pe_int (nomark _)) (pss_cons (ps_expr (pe_bm PySem.F.plainAttrs_list PySem.F.slot_list_append PySem.F.type_list_append mt_append (pv 4) (pa_cons (pv 6) pa_nil)))
      (pss_one (ps_set (i := 7) sc_law.nd rfl (Or.inl rfl) (pe_callB call_len_seq (by rfl) T.z_len PySem.boot_len (pa_cons (pv 4) pa_nil))))) pss_nil)
      (pss_one (ps_if (PW.pt (pw_or (pt_cmpR op_ne (pe_meth (pv 2) T.cl_Sealer T.m_Sealer_mark G_Sealer_mark (hr.mono (by decide)) T.b_Sealer_mark .nil pass0 (pa_cons (pv 6) pa_nil)) (pv 7) (nomark _)) (pw_or1 (pt_cmpR op_notBl (pe_meth (pv 2) T.cl_Sealer T.m_Sealer_knows G_Sealer_knows (hr.mono (by decide)) T.b_Sealer_knows .nil pass0 (pa_cons (pv 6) (pa_cons (pv 7) pa_nil))) pe_bl (nomark _))))) (pss_one (ps_ret pe_bl)) pss_nil))) pss_nil)
      h6)), ?_⟩
  intro D a c p md tl p2 md2 tl2 lt l0 tx ds d k m to an n H N I hd hx hn hdp hdue hlen kk
  obtain ⟨dx2, _, _, hp2, _⟩ := id I.s2
  refine ⟨_, rfl, p2, dx2, _, rfl, hp2, rfl, _, rfl, p2, md2, tl2, [], .ref tx, d, 1, rfl, I.s2, hd, by omega, by omega, fun H1 S1 => ?_⟩
  rw [show kn [] d 1 = false from rfl]
  refine ⟨false, false, rfl, rfl, _, rfl, iteF ?_⟩
  have I1 := I.same S1
  have hd1 := hd.keep (sameTk S1)
  refine ⟨_, rfl, a, c, 3, rfl, I1.st, by decide, by decide, fun r H2 r0 r3 St2 K2 => ⟨_, _, rfl, rfl, _, rfl, ite2 (fun _ => ?_) (fun _ => ?_)⟩⟩
  · have I2 := I1.kp N St2 K2
    have hd2 := hd1.keep (kpTk I1.st K2)
    obtain ⟨vs, hv1, hv2⟩ := I2.tx
    obtain ⟨htx, hnod⟩ := I2.s1.facts
    by_cases hin : d ∈ ds
    · obtain ⟨i, hi⟩ := List.mem_iff_getElem?.mp hin
      have en := hdue.1 i hi
      refine ⟨_, rfl, rfl, _, rfl, iteDF (fun z => by have := V.int.inj z; omega) ?_⟩
      obtain ⟨dx, _, _, hp, _⟩ := id I2.s1
      refine ⟨_, rfl, p, dx, _, rfl, hp, rfl, _, rfl, p, md, tl, ds, .ref tx, d, rfl, I2.s1, hd2, hx, by omega, by omega, by omega, fun i' H3 hi' S3 => ?_, fun hno => absurd hin hno⟩
      refine ⟨_, rfl, rfl, _, rfl, iteNS (by rw [hdue.1 i' hi']) ?_⟩
      have I3 := I2.same S3
      have hd3 := hd2.keep (sameTk S3)
      refine ⟨_, rfl, p, dx, _, rfl, S3 _ _ hp, rfl, _, rfl, _, rfl, p, md, tl, ds, .ref tx, d, n, rfl, I3.s1, hd3, by omega, by omega, fun H4 S4 => ?_⟩
      rw [en, kn_self hd3 hx hi]
      refine ⟨true, true, rfl, rfl, _, rfl, iteF ?_⟩
      exact k6 D a c p md tl p2 md2 tl2 lt l0 tx ds d k m to an _ H4 (I3.same S4) (hd3.keep (sameTk S4)) hx hn hdp fun an' H' I' => kk ds _ an' H' (Nat.le_succ _) I'
    · have en := hdue.2 hin
      refine ⟨_, rfl, rfl, _, rfl, iteDT (by rw [en]) ?_⟩
      have hvl := hv2.length
      refine ⟨_, rfl, .inl ⟨rfl, _, SqL.of hv1⟩, _, rfl, lt, vs, .ref tx, rfl, rfl, hv1, small1000 (by omega), ?_⟩
      refine ⟨_, rfl, lt, _, rfl, .inl (SqL.of upd_same), ?_⟩
      obtain ⟨dx, kvs, us, e1, e2, e3, _⟩ := id I2.s1
      obtain ⟨dy, kv2, us2, f1, f2, f3, _⟩ := id I2.s2
      obtain ⟨ns, z, hac, q1, q2, q3⟩ := id I2.st
      have npl : p ≠ lt := fun y => by rw [y, hv1] at e1; cases e1
      have nml : md ≠ lt := fun y => by rw [y, hv1] at e2; exact (lst_mkd (Option.some.inj e2)).elim
      have np2l : p2 ≠ lt := fun y => by rw [y, hv1] at f1; cases f1
      have nm2l : md2 ≠ lt := fun y => by rw [y, hv1] at f2; exact (lst_mkd (Option.some.inj f2)).elim
      have K3 : TKeep H2 (upd H2 lt (.lst (vs ++ [.ref tx]))) := TKeep.upd hv1
      have Se3 : SeA P w T.C_Sealer (upd H2 lt (.lst (vs ++ [.ref tx]))) p md tl ds := I2.s1.keep K3 (fun o e => by rw [upd_ne npl]; exact e) (fun o e => by rw [upd_ne nml]; exact e) fun o e => by rw [upd_ne N.ltt.symm]; exact e
      have Sf3 : SeA P w T.C_Sealer (upd H2 lt (.lst (vs ++ [.ref tx]))) p2 md2 tl2 [] := I2.s2.keep K3 (fun o e => by rw [upd_ne np2l]; exact e) (fun o e => by rw [upd_ne nm2l]; exact e) fun o e => by rw [upd_ne N.lt2.symm]; exact e
      have St3 : StA a c (upd H2 lt (.lst (vs ++ [.ref tx]))) := ⟨ns, z, hac, by rw [upd_ne N.lta.symm]; exact q1, by rw [upd_ne N.ltc.symm]; exact q2, q3⟩
      have hd3 := hd2.keep K3
      have hv3 := (hv2.keep K3).snoc' hd3
      have hl3 : (upd H2 lt (.lst (vs ++ [.ref tx]))) lt = some (.lst (vs ++ [.ref tx])) := upd_same
      have e1' : (upd H2 lt (.lst (vs ++ [.ref tx]))) p = _ := (upd_ne npl).trans e1
      generalize (upd H2 lt (.lst (vs ++ [.ref tx]))) = H3 at *
      refine ⟨_, rfl, p, dx, _, rfl, e1', rfl, _, rfl, p, md, tl, ds, .ref tx, d, rfl, Se3, hd3, hx, by omega, by omega, by omega, fun i' H4 hi' S4 => absurd (List.mem_of_getElem? hi') hin, fun _ H4 k4 K4 Se4 => ?_⟩
      refine ⟨_, rfl, rfl, _, rfl, iteNS (by rw [List.length_append, List.length_singleton, hvl]; rfl) ?_⟩
      have hd4 := hd3.keep K4
      obtain ⟨dx4, _, _, g1, _⟩ := id Se4
      refine ⟨_, rfl, p, dx4, _, rfl, g1, rfl, _, rfl, _, rfl, p, md, tl, ds ++ [d], .ref tx, d, _, rfl, Se4, hd4, by omega, by omega, fun H5 S5 => ?_⟩
      have ek : kn (ds ++ [d]) d (((vs ++ [V.ref tx]).length : Nat) : Int) = true := by
        rw [List.length_append, List.length_singleton, hvl, Int.natCast_add]
        exact kn_self hd4 hx (by simp)
      rw [ek]
      refine ⟨true, true, rfl, rfl, _, rfl, iteF ?_⟩
      have ne_md : ∀ {b : Addr} {xs : List V}, H3 b = some (.lst xs) → b ≠ md := fun hb y => by
        obtain ⟨_, _, _, _, h2, _⟩ := Se3
        rw [y, h2] at hb; exact (lst_mkd (Option.some.inj hb).symm).elim
      obtain ⟨dy, kv2, us2, f1, f2, f3, _⟩ := id Sf3
      obtain ⟨ns, z, hac, q1, q2, q3⟩ := id St3
      have p2md : p2 ≠ md := fun y => by
        obtain ⟨_, _, _, _, h2, _⟩ := Se3
        rw [y, h2] at f1; exact (ins_mkd (Option.some.inj f1).symm).elim
      have p2tl : p2 ≠ tl := fun y => by
        obtain ⟨_, _, _, _, _, h2, _⟩ := Se3
        rw [y, h2] at f1; cases f1
      have m2tl : md2 ≠ tl := fun y => by
        obtain ⟨_, _, _, _, _, h2, _⟩ := Se3
        rw [y, h2] at f2; exact (lst_mkd (Option.some.inj f2)).elim
      have I4 : LI P w T.C_Sealer a c p md tl p2 md2 tl2 lt (ds ++ [d]) H4 := ⟨⟨ns, z, hac, k4 _ _ (ne_md q1) N.tla.symm q1, k4 _ _ (ne_md q2) N.tlc.symm q2, q3⟩, Se4,
        Sf3.keep K4 (fun o e => k4 _ _ p2md p2tl e) (fun o e => k4 _ _ N.mm2.symm m2tl e) (fun o e => k4 _ _ (ne_md f3) N.tt2.symm e), ⟨_, k4 _ _ (ne_md hl3) N.ltt hl3, hv3.keep K4⟩, fun e he => by
          rcases List.mem_append.mp he with he | he
          · exact I.sm e he
          · rw [List.mem_singleton.mp he]; exact ⟨hn, hdp⟩⟩
      exact k6 D a c p md tl p2 md2 tl2 lt l0 tx (ds ++ [d]) d k m to an _ H5 (I4.same S5) (hd4.keep (sameTk S5)) hx hn hdp fun an' H' I' => kk (ds ++ [d]) _ an' H' (by rw [List.length_append]; exact Nat.le_refl _) I'
  · have I2 := I1.kp N St2 K2
    have hd2 := hd1.keep (kpTk I1.st K2)
    exact k6 D a c p md tl p2 md2 tl2 lt l0 tx ds d k m to an _ H2 I2 hd2 hx hn hdp fun an' H' I' => kk ds _ an' H' (Nat.le_succ _) I'
end

theorem kn_due {H : Hp} {ds : List PyData} {d : PyData} {v : V} {n m : Int} (hd : Td H v d) (hx : txtAll ds = true) (hdue : Due ds d n) : kn ds d m = (decide (0 < m) && decide (m = n)) := by
  have hpos : 0 < m → m = n → ds[(m - 1).toNat]? = some d := fun h1 h2 => by
    by_cases hin : d ∈ ds
    · obtain ⟨i, hi⟩ := List.mem_iff_getElem?.mp hin
      have := hdue.1 i hi
      rw [show (m - 1).toNat = i by omega]
      exact hi
    · have := hdue.2 hin
      omega
  unfold kn
  by_cases h1 : 1 ≤ m
  · rw [if_pos h1, decide_eq_true (show 0 < m by omega), Bool.true_and]
    cases e : ds[(m - 1).toNat]? with
    | none =>
      show false = _
      refine (decide_eq_false fun z => ?_).symm
      have := hpos (by omega) z
      rw [e] at this; cases this
    | some f =>
      show PyData.eqv d f = _
      have hf := txtAll_mem hx (List.mem_of_getElem? e)
      cases q : PyData.eqv d f with
      | true =>
        have e2 := (eqv_txt hd hf).mp q
        rw [← e2] at e
        have := hdue.1 _ e
        exact (decide_eq_true (by omega)).symm
      | false =>
        refine (decide_eq_false fun z => ?_).symm
        have := hpos (by omega) z
        rw [e] at this
        cases this
        rw [(eqv_txt hd hf).mpr rfl] at q
        cases q
  · rw [if_neg h1, decide_eq_false (show ¬ 0 < m by omega), Bool.false_and]
section
variable {P : Program} {w : World} {K : PySem.W.Frag} {mg : Str → Option Value} {base : Heap} {cdv : Value} {A : Around} {outer : List Env} {s0 : Shared} {H0 : Hp} {E : XK}
theorem law_t3 (T : Txt K mg) (hr : Room 3 (A.deeper (PyProof.Rows.envOfC "law" (defScope s_law) s0.heap.objs.size T.f_law cdv))) :
    ∃ t, PSs (XL P w K mg base T.f_law cdv A outer s0 H0 E) (lawLoop.drop 3) t ∧ ∀ (D : Ends) (a c p md tl p2 md2 tl2 lt l0 tx : Addr) (ds : List PyData) (d : PyData) (k m to an : Option V) (n : Int) (H : Hp), LN a c md tl md2 tl2 lt → LI P w T.C_Sealer a c p md tl p2 md2 tl2 lt ds H → Td H (.ref tx) d → txt d = true → nd d ≤ 20 → d.depth ≤ 3 →
      Due ds d n → ds.length ≤ 90 → (∀ ds' due' m' to' an' H', ds'.length ≤ ds.length + 1 → LI P w T.C_Sealer a c p md tl p2 md2 tl2 lt ds' H' → D.nx [some (.ref l0), some (.ref a), some (.ref p), some (.ref p2), some (.ref lt), k, some (.ref tx), some due', m', to', an'] H') →
      t D [some (.ref l0), some (.ref a), some (.ref p), some (.ref p2), some (.ref lt), k, some (.ref tx), some (.int n), m, to, an] H := by
  have G_Sealer_knows : FnOk P w K mg base CX0 2 T.f_Sealer_knows T.d_Sealer_knows p_Sealer_knows (spKnows P w T.C_Sealer) := ok_knows T
  have G__law_draw : FnOk P w K mg base CX0 1 T.f__law_draw T.d__law_draw p__law_draw spDraw := ok_draw T
  obtain ⟨t4, h4, k4⟩ := law_t4 (E := E) (H0 := H0) (s0 := s0) (outer := outer) (base := base) (P := P) (w := w) T hr
  refine ⟨_, (pss_cons (ps_for PassesOwn.never rfl (pi_list (pe_lst (pa_cons pe_int (pa_cons (pe_op op_add pe_int (pe_call G__law_draw (hr.mono (by decide)) rfl T.mg__law_draw T.F__law_draw.kp T.b__law_draw .nil pass0 (pa_cons (pv 1) (pa_cons (pe_op op_add (pe_callB call_len_seq (by rfl) T.z_len PySem.boot_len (pa_cons (pv 4) pa_nil)) pe_int) pa_nil)))) (pa_cons (pv 7) pa_nil))))) (pg_name (i := 8) sc_law.nd rfl (Or.inl rfl)) (pss_cons (ps_set (i := 9) sc_law.nd rfl (Or.inl rfl) (pe_meth (pv 2) T.cl_Sealer T.m_Sealer_knows G_Sealer_knows (hr.mono (by decide)) T.b_Sealer_knows .nil pass0 (pa_cons (pv 6) (pa_cons (pv 8) pa_nil))))
      (pss_one (ps_if (PW.pt (pw_or (pt_not (pt_val (pe_callB call_isi (by rfl) T.z_isinstance (by decide +kernel) (pa_cons (pv 9) (pa_cons (pe_bltn (v := V.ty "bool") (by rfl) T.z_bool (by decide +kernel) rfl) pa_nil))))) (pw_or1 (pt_cmpR op_ne (pv 9) (pe_and (pe_cmpR op_gt (pv 8) pe_int (nomark _)) (pe_one (pe_cmpR op_eq (pv 8) (pv 7) (nomark _)))) (nomark _))))) (pss_one (ps_ret pe_bl)) pss_nil))))
      h4), ?_⟩
  intro D a c p md tl p2 md2 tl2 lt l0 tx ds d k m to an n H N I hd hx hn hdp hdue hlen kk
  obtain ⟨vs, hv1, hv2⟩ := I.tx
  have hvl := hv2.length
  refine ⟨_, rfl, _, rfl, lt, vs, rfl, .inl (SqL.of hv1), _, _, rfl, rfl, a, c, _, rfl, I.st, by omega, by omega, fun r H1 r0 r1 S1 K1 => ⟨_, _, rfl, rfl, _, rfl, (by show 3 ≤ sizeLine; decide), fun lq hlq => ?_⟩⟩
  have I1 := I.kp N S1 K1
  have hd1 := hd.keep (kpTk I.st K1)
  have S2 : Same H1 (upd H1 lq (.lst [.int 0, .int (1 + r), .int n])) := Same.new hlq
  refine ⟨lq, rfl, ⟨_, SqL.of upd_same⟩, for_list (K := K) (a := lq) (xs := [.int 0, .int (1 + r), .int n]) (fun i σ H' => ∃ m' to' : Option V, σ = [some (.ref l0), some (.ref a), some (.ref p), some (.ref p2), some (.ref lt), k, some (.ref tx), some (.int n), m', to', an] ∧
    Same H1 H' ∧ H' lq = some (.lst [.int 0, .int (1 + r), .int n])) ⟨m, to, rfl, S2, upd_same⟩ (fun i σ H' _ ⟨_, _, _, _, h⟩ => SqL.of h) ?_ ?_⟩
  · rintro i y σ H2 hi ⟨m', to', rfl, S2, hl2⟩
    have I2 := I1.same S2
    have hd2 := hd1.keep (sameTk S2)
    obtain ⟨q, rfl⟩ : ∃ q : Int, y = .int q := by
      match i, hi with
      | 0, hi => cases hi; exact ⟨_, rfl⟩
      | 1, hi => cases hi; exact ⟨_, rfl⟩
      | 2, hi => cases hi; exact ⟨_, rfl⟩
      | n + 3, hi => exact absurd (show (([] : List V)[n]?) = some y from hi) (by simp)
    obtain ⟨dx, _, _, hp, _⟩ := id I2.s1
    refine ⟨_, rfl, p, dx, _, rfl, hp, rfl, _, rfl, _, rfl, p, md, tl, ds, .ref tx, d, q, rfl, I2.s1, hd2, by omega, by omega, fun H3 S3 => ?_⟩
    rw [kn_due hd2 I2.s1.facts.1 hdue]
    refine ⟨_, rfl, _, _, _, _, true, rfl, .ty "bool", .base (.bl _), kit_ty (by decide +kernel), _, rfl, iteF ?_⟩
    refine ⟨_, rfl, _, rfl, _, _, rfl, rfl, ?_⟩
    by_cases hq : 0 < q
    · refine ⟨_, rfl, ?_⟩
      refine iteDT hq ?_
      refine ⟨_, rfl, _, rfl, rfl, rfl, _, rfl, iteNS ?_ ⟨_, _, rfl, S2.trans S3, S3 _ _ hl2⟩⟩
      rw [decide_eq_true hq, Bool.true_and]
      by_cases e : q = n
      · rw [e]; simp
      · have e2 : ¬ V.int q = V.int n := fun z => e (V.int.inj z)
        rw [decide_eq_false e, decide_eq_false e2]
    · refine ⟨_, rfl, ?_⟩
      refine iteDF hq ?_
      refine ⟨rfl, _, rfl, iteNS ?_ ⟨_, _, rfl, S2.trans S3, S3 _ _ hl2⟩⟩
      rw [decide_eq_false hq, Bool.false_and]
  · rintro σ H2 ⟨m', to', rfl, S2, hl2⟩
    refine k4 D a c p md tl p2 md2 tl2 lt l0 tx ds d k m' to' an n H2 N (I1.same S2) (hd1.keep (sameTk S2)) hx hn hdp hdue hlen fun ds' due' an' H' e I' => kk ds' due' m' to' an' H' e I'
end

theorem nd_ix {ds : List PyData} (hn : ds.Nodup) {i j : Nat} {d : PyData} (hi : ds[i]? = some d) (hj : ds[j]? = some d) : i = j :=
  (List.getElem?_inj (List.getElem?_eq_some_iff.mp hi).1 hn).mp (hi.trans hj.symm)
section
variable {P : Program} {w : World} {K : PySem.W.Frag} {mg : Str → Option Value} {base : Heap} {cdv : Value} {A : Around} {outer : List Env} {s0 : Shared} {H0 : Hp} {E : XK}
theorem law_t0 (T : Txt K mg) (hr : Room 3 (A.deeper (PyProof.Rows.envOfC "law" (defScope s_law) s0.heap.objs.size T.f_law cdv))) :
    ∃ t, PSs (XL P w K mg base T.f_law cdv A outer s0 H0 E) lawLoop t ∧ ∀ (D : Ends) (a c p md tl p2 md2 tl2 lt l0 : Addr) (ds : List PyData) (k tx0 due0 m to an : Option V) (H : Hp), LN a c md tl md2 tl2 lt → LI P w T.C_Sealer a c p md tl p2 md2 tl2 lt ds H →
      ds.length ≤ 90 → (∀ ds' tx' due' m' to' an' H', ds'.length ≤ ds.length + 1 → LI P w T.C_Sealer a c p md tl p2 md2 tl2 lt ds' H' → D.nx [some (.ref l0), some (.ref a), some (.ref p), some (.ref p2), some (.ref lt), k, some tx', some due', m', to', an'] H') →
      t D [some (.ref l0), some (.ref a), some (.ref p), some (.ref p2), some (.ref lt), k, tx0, due0, m, to, an] H := by
  have G__law_text : FnOk P w K mg base CX0 2 T.f__law_text T.d__law_text p__law_text spText := ok_text T
  obtain ⟨t3, h3, k3⟩ := law_t3 (E := E) (H0 := H0) (s0 := s0) (outer := outer) (base := base) (P := P) (w := w) T hr
  refine ⟨_, (pss_cons (ps_set (i := 6) sc_law.nd rfl (Or.inl rfl) (pe_call G__law_text (hr.mono (by decide)) rfl T.mg__law_text T.F__law_text.kp T.b__law_text .nil pass0 (pa_cons (pv 1) (pa_cons pe_int pa_nil))))
      (pss_cons (ps_set (i := 7) sc_law.nd rfl (Or.inl rfl) pe_int)
      (pss_cons (ps_if (pt_cmpR (op_inD (hu65 hr)) (pv 6) (pv 4) (by rfl)) (pss_one (ps_set (i := 7) sc_law.nd rfl (Or.inl rfl) (pe_op op_add pe_int (pe_bm PySem.F.plainAttrs_list PySem.F.slot_list_index PySem.F.type_list_index (mt_indexD (hu65 hr)) (pv 4) (pa_cons (pv 6) pa_nil))))) pss_nil)
      h3))), ?_⟩
  intro D a c p md tl p2 md2 tl2 lt l0 ds k tx0 due0 m to an H N I hlen kk
  refine ⟨_, rfl, a, c, rfl, I.st, fun tx d H1 hd hx hn hdp S1 K1 => ?_⟩
  have I1 := I.kp N S1 K1
  obtain ⟨vs, hv1, hv2⟩ := I1.tx
  obtain ⟨htx, hnod⟩ := I1.s1.facts
  have hall : ∀ z ∈ ds, ∃ u, Td H1 u z := fun z hz => let ⟨j, hj⟩ := List.mem_iff_getElem?.mp hz; td_get hv2 hj
  refine ⟨_, rfl, _, rfl, d, ds, hd.dp, .lst (SqL.of hv1) hv2.dp, hd.shaped (by omega), hv2.shp fun e he => (I1.sm e he).2, _, rfl, ?_⟩
  cases hany : (ds.any fun z => PyData.eqv z d) with
  | true =>
    obtain ⟨z, hz, ez⟩ := List.any_eq_true.mp hany
    obtain ⟨u, hu⟩ := hall z hz
    have e1 := (eqv_txt hu hx).mp ez
    subst e1
    obtain ⟨j, hj⟩ := List.mem_iff_getElem?.mp hz
    refine iteT ?_
    refine ⟨_, rfl, .inl ⟨rfl, _, SqL.of hv1⟩, _, rfl, lt, .ref tx, z, ds, j, z, rfl, rfl, .lst (SqL.of hv1) hv2.dp, hd.dp, hv2.shp fun e he => (I1.sm e he).2, hd.shaped (by omega), hj, ez, fun m' z' hm hz' => ?_, _, _, rfl, rfl, ?_⟩
    · cases q : PyData.eqv z' z with
      | false => rfl
      | true =>
        obtain ⟨u', hu'⟩ := hall z' (List.mem_of_getElem? hz')
        have e2 := (eqv_txt hu' hx).mp q
        rw [e2] at hz'
        have := nd_ix hnod hz' hj
        omega
    · exact k3 D a c p md tl p2 md2 tl2 lt l0 tx ds z k m to an (1 + (j : Nat)) H1 N I1 hd hx hn hdp ⟨fun i hi => by rw [nd_ix hnod hi hj]; omega, fun hno => absurd hz hno⟩ hlen fun ds' due' m' to' an' H' e I' => kk ds' _ due' m' to' an' H' e I'
  | false =>
    refine iteF ?_
    have hno : d ∉ ds := fun hin => by
      obtain ⟨u, hu⟩ := hall d hin
      exact absurd ((eqv_txt hu hx).mpr rfl) (List.any_eq_false.mp hany d hin)
    exact k3 D a c p md tl p2 md2 tl2 lt l0 tx ds d k m to an 0 H1 N I1 hd hx hn hdp ⟨fun i hi => absurd (List.mem_of_getElem? hi) hno, fun _ => rfl⟩ hlen fun ds' due' m' to' an' H' e I' => kk ds' _ due' m' to' an' H' e I'
end
theorem ok_law {P : Program} {w : World} {K : PySem.W.Frag} {mg : Str → Option Value} {base : Heap} (T : Txt K mg) : FnOk P w K mg base CX0 4 T.f_law T.d_law p_law (spLaw K) := by
  have G__law_state : FnOk P w K mg base CX0 1 T.f__law_state T.d__law_state p__law_state (spState K) := ok_state T
  have G__law_draw : FnOk P w K mg base CX0 1 T.f__law_draw T.d__law_draw p__law_draw spDraw := ok_draw T
  have G_Sealer___init__ : FnOk P w K mg base CX0 1 T.f_Sealer___init__ T.d_Sealer___init__ p_Sealer___init__ (spInitS P w T.C_Sealer) := ok_init T
  refine T.F_law.ok sc_law (fun vs H Q E h => ?_) (fun cdv A outer s0 H vs Q E hr h => ?_)
  · obtain ⟨a, ns, rfl, _⟩ := h
    rfl
  · obtain ⟨l0, ns, rfl, hS, hlen, k⟩ := h
    obtain ⟨t0, h0, k0⟩ := law_t0 (E := E) (H0 := H) (s0 := s0) (outer := outer) (base := base) (P := P) (w := w) T hr
    refine ⟨_, (pss_cons (ps_set (i := 1) sc_law.nd rfl (Or.inl rfl) (pe_call G__law_state (hr.mono (by decide)) rfl T.mg__law_state T.F__law_state.kp T.b__law_state .nil pass0 (pa_cons (pv 0) pa_nil)))
      (pss_cons (ps_set (i := 2) sc_law.nd rfl (Or.inl rfl) (pe_make0 T.M_Sealer G_Sealer___init__ (hr.mono (by decide)) rfl T.mg_Sealer T.b_Sealer___init__ .nil pass0))
      (pss_cons (ps_set (i := 3) sc_law.nd rfl (Or.inl rfl) (pe_make0 T.M_Sealer G_Sealer___init__ (hr.mono (by decide)) rfl T.mg_Sealer T.b_Sealer___init__ .nil pass0))
      (pss_cons (ps_set (i := 4) sc_law.nd rfl (Or.inl rfl) (pe_lst pa_nil))
      (pss_cons (ps_for PassesOwn.never rfl (pi_range1 rfl T.z_range (pa_cons (pe_op op_add pe_int (pe_call G__law_draw (hr.mono (by decide)) rfl T.mg__law_draw T.F__law_draw.kp T.b__law_draw .nil pass0 (pa_cons (pv 1) (pa_cons pe_int pa_nil)))) pa_nil)) (pg_name (i := 5) sc_law.nd rfl (Or.inl rfl)) h0) (pss_one (ps_ret pe_bl))))))), ?_⟩
    refine ⟨_, rfl, l0, ns, rfl, hS, hlen, fun a c H1 ha hc S1 SS1 => ?_⟩
    intro p dx hp hdx nex
    refine ⟨p, dx, rfl, upd_same, fun md tl H2 hm ht k2 Se => ⟨rfl, ?_⟩⟩
    have old : ∀ {b : Addr} {o : HO}, H1 b = some o → (upd (upd H1 dx (.own p)) p (.ins T.C_Sealer dx [])) b = some o := fun e => by rw [upd_ne (ne_of_none e hp), upd_ne (ne_of_none e hdx)]; exact e
    have S12 : Same H1 H2 := fun b o e => k2 b o (ne_of_none e hp) (old e)
    have St2 := S1.keep S12
    have tla : tl ≠ a := fun y => by obtain ⟨o, z⟩ := S1.some1; rw [y, old z] at ht; cases ht
    have tlc : tl ≠ c := fun y => by obtain ⟨o, z⟩ := S1.some2; rw [y, old z] at ht; cases ht
    intro p2 dx2 hp2 hdx2 nex2
    refine ⟨p2, dx2, rfl, upd_same, fun md2 tl2 H3 hm2 ht2 k3 Se2 => ⟨rfl, ?_⟩⟩
    have old2 : ∀ {b : Addr} {o : HO}, H2 b = some o → (upd (upd H2 dx2 (.own p2)) p2 (.ins T.C_Sealer dx2 [])) b = some o := fun e => by rw [upd_ne (ne_of_none e hp2), upd_ne (ne_of_none e hdx2)]; exact e
    have S23 : Same H2 H3 := fun b o e => k3 b o (ne_of_none e hp2) (old2 e)
    have St3 := St2.keep S23
    have Se3 := Se.same S23
    obtain ⟨_, _, _, _, em, et, _⟩ := id Se
    have t2a : tl2 ≠ a := fun y => by obtain ⟨o, z⟩ := St2.some1; rw [y, old2 z] at ht2; cases ht2
    have t2c : tl2 ≠ c := fun y => by obtain ⟨o, z⟩ := St2.some2; rw [y, old2 z] at ht2; cases ht2
    have tt2 : tl ≠ tl2 := fun y => by rw [← y, old2 et] at ht2; cases ht2
    have mm2 : md ≠ md2 := fun y => by rw [← y, old2 em] at hm2; cases hm2
    -- texts = []
    refine ⟨Nat.zero_le _, fun lt hlt => ?_⟩
    have Sl : Same H3 (upd H3 lt (.lst [])) := Same.new hlt
    obtain ⟨_, _, _, _, _, et3, _⟩ := id Se3
    obtain ⟨_, _, _, _, _, et4, _⟩ := id Se2
    have nla : lt ≠ a := fun y => by obtain ⟨o, z⟩ := St3.some1; rw [y, z] at hlt; cases hlt
    have nlc : lt ≠ c := fun y => by obtain ⟨o, z⟩ := St3.some2; rw [y, z] at hlt; cases hlt
    have nlt : lt ≠ tl := fun y => by rw [y, et3] at hlt; cases hlt
    have nl2 : lt ≠ tl2 := fun y => by rw [y, et4] at hlt; cases hlt
    have N : LN a c md tl md2 tl2 lt := ⟨nla, nlc, tla, tlc, t2a, t2c, nlt, nl2, tt2, mm2⟩
    have I : LI P w T.C_Sealer a c p md tl p2 md2 tl2 lt [] (upd H3 lt (.lst [])) := ⟨St3.keep Sl, Se3.same Sl, Se2.same Sl, ⟨[], upd_same, .nil⟩, fun d hd => by cases hd⟩
    refine ⟨_, rfl, a, c, 50, rfl, I.st, by decide, by decide, fun r H4 r0 r1 S4 K4 => ⟨_, _, rfl, rfl, _, rfl, by omega, by omega, for_range (n := (10 + r).toNat) (fun i σ H' => ∃ (ds : List PyData) (k tx due m to an : Option V), σ = [some (.ref l0), some (.ref a), some (.ref p), some (.ref p2), some (.ref lt), k, tx, due, m, to, an] ∧
      LI P w T.C_Sealer a c p md tl p2 md2 tl2 lt ds H' ∧ ds.length ≤ i) ⟨[], none, none, none, none, none, none, rfl, I.kp N S4 K4, Nat.le_refl _⟩ ?_ ?_⟩⟩
    · rintro i σ H5 hi ⟨ds, k', tx, due, m, to, an, rfl, I5, hl5⟩
      exact k0 _ a c p md tl p2 md2 tl2 lt l0 ds _ tx due m to an H5 N I5 (by omega) fun ds' tx' due' m' to' an' H' e I' => ⟨ds', _, _, _, _, _, _, rfl, I', by omega⟩
    · rintro σ H5 ⟨ds, k', tx, due, m, to, an, rfl, I5, hl5⟩
      exact k H5

theorem all_mk {l : PySem.W.OpenLaw} {w : World} {K : PySem.W.Frag} {h : Heap} {mg : Str → Option Value} {fa : Addr} (X : K.In h) (G : h.Ns mainGlobals mg) (hfa : mg "law" = some (.ref fa))
    {f0 : Addr} {od0 an0 : Option Addr} {sl0 : Array (Option Value)} {oc0 kV0 dc0 pm0 cd0 ct0 : Value}
    {f1 : Addr} {od1 an1 : Option Addr} {sl1 : Array (Option Value)} {oc1 kV1 dc1 pm1 cd1 ct1 : Value}
    {f2 : Addr} {od2 an2 : Option Addr} {sl2 : Array (Option Value)} {oc2 kV2 dc2 pm2 cd2 ct2 : Value}
    {f3 : Addr} {od3 an3 : Option Addr} {sl3 : Array (Option Value)} {oc3 kV3 dc3 pm3 cd3 ct3 : Value}
    {f4 : Addr} {od4 an4 : Option Addr} {sl4 : Array (Option Value)} {oc4 kV4 dc4 pm4 cd4 ct4 : Value}
    {f5 : Addr} {od5 an5 : Option Addr} {sl5 : Array (Option Value)} {oc5 kV5 dc5 pm5 cd5 ct5 : Value}
    {f6 : Addr} {od6 an6 : Option Addr} {sl6 : Array (Option Value)} {oc6 kV6 dc6 pm6 cd6 ct6 : Value}
    {f7 : Addr} {od7 an7 : Option Addr} {sl7 : Array (Option Value)} {oc7 kV7 dc7 pm7 cd7 ct7 : Value}
    {f8 : Addr} {od8 an8 : Option Addr} {sl8 : Array (Option Value)} {oc8 kV8 dc8 pm8 cd8 ct8 : Value}
    {C_Sealer : Addr}
    (aCSealer : PySem.W.nsIn K mainGlobals "Sealer" = some (some (.ref C_Sealer)))
    (a0 : PySem.W.nsIn K mainGlobals "spelled" = some (some (.ref f0)))
    (l0 : K.lookup f0 = some ⟨oc0, od0, .func (PySem.W.fnOf "spelled" "spelled" (defArgs s_spelled) (defBody s_spelled) (defScope s_spelled) .none kV0 dc0 pm0 an0 cd0 ct0), sl0⟩)
    (c0 : PySem.W.codeIn K cd0 "spelled" = true)
    (k0 : PySem.W.keepIn K (.ref f0) = true)
    (a1 : PySem.W.nsIn K mainGlobals "is_same" = some (some (.ref f1)))
    (l1 : K.lookup f1 = some ⟨oc1, od1, .func (PySem.W.fnOf "is_same" "is_same" (defArgs s_is_same) (defBody s_is_same) (defScope s_is_same) .none kV1 dc1 pm1 an1 cd1 ct1), sl1⟩)
    (c1 : PySem.W.codeIn K cd1 "is_same" = true)
    (k1 : PySem.W.keepIn K (.ref f1) = true)
    (a2 : PySem.W.findIn K (.ref C_Sealer) "__init__" = some (some (.ref f2)))
    (i2 : PySem.W.isFn K (.ref f2) = true)
    (l2 : K.lookup f2 = some ⟨oc2, od2, .func (PySem.W.fnOf "__init__" "Sealer.__init__" (defArgs s_Sealer___init__) (defBody s_Sealer___init__) (defScope s_Sealer___init__) .none kV2 dc2 pm2 an2 cd2 ct2), sl2⟩)
    (c2 : PySem.W.codeIn K cd2 "Sealer.__init__" = true)
    (k2 : PySem.W.keepIn K (.ref f2) = true)
    (a3 : PySem.W.findIn K (.ref C_Sealer) "mark" = some (some (.ref f3)))
    (i3 : PySem.W.isFn K (.ref f3) = true)
    (l3 : K.lookup f3 = some ⟨oc3, od3, .func (PySem.W.fnOf "mark" "Sealer.mark" (defArgs s_Sealer_mark) (defBody s_Sealer_mark) (defScope s_Sealer_mark) .none kV3 dc3 pm3 an3 cd3 ct3), sl3⟩)
    (c3 : PySem.W.codeIn K cd3 "Sealer.mark" = true)
    (k3 : PySem.W.keepIn K (.ref f3) = true)
    (a4 : PySem.W.findIn K (.ref C_Sealer) "knows" = some (some (.ref f4)))
    (i4 : PySem.W.isFn K (.ref f4) = true)
    (l4 : K.lookup f4 = some ⟨oc4, od4, .func (PySem.W.fnOf "knows" "Sealer.knows" (defArgs s_Sealer_knows) (defBody s_Sealer_knows) (defScope s_Sealer_knows) .none kV4 dc4 pm4 an4 cd4 ct4), sl4⟩)
    (c4 : PySem.W.codeIn K cd4 "Sealer.knows" = true)
    (k4 : PySem.W.keepIn K (.ref f4) = true)
    (a5 : PySem.W.nsIn K mainGlobals "_law_state" = some (some (.ref f5)))
    (l5 : K.lookup f5 = some ⟨oc5, od5, .func (PySem.W.fnOf "_law_state" "_law_state" (defArgs s__law_state) (defBody s__law_state) (defScope s__law_state) .none kV5 dc5 pm5 an5 cd5 ct5), sl5⟩)
    (c5 : PySem.W.codeIn K cd5 "_law_state" = true)
    (k5 : PySem.W.keepIn K (.ref f5) = true)
    (a6 : PySem.W.nsIn K mainGlobals "_law_draw" = some (some (.ref f6)))
    (l6 : K.lookup f6 = some ⟨oc6, od6, .func (PySem.W.fnOf "_law_draw" "_law_draw" (defArgs s__law_draw) (defBody s__law_draw) (defScope s__law_draw) .none kV6 dc6 pm6 an6 cd6 ct6), sl6⟩)
    (c6 : PySem.W.codeIn K cd6 "_law_draw" = true)
    (k6 : PySem.W.keepIn K (.ref f6) = true)
    (a7 : PySem.W.nsIn K mainGlobals "_law_text" = some (some (.ref f7)))
    (l7 : K.lookup f7 = some ⟨oc7, od7, .func (PySem.W.fnOf "_law_text" "_law_text" (defArgs s__law_text) (defBody s__law_text) (defScope s__law_text) .none kV7 dc7 pm7 an7 cd7 ct7), sl7⟩)
    (c7 : PySem.W.codeIn K cd7 "_law_text" = true)
    (k7 : PySem.W.keepIn K (.ref f7) = true)
    (a8 : PySem.W.nsIn K mainGlobals "law" = some (some (.ref f8)))
    (l8 : K.lookup f8 = some ⟨oc8, od8, .func (PySem.W.fnOf "law" "law" (defArgs s_law) (defBody s_law) (defScope s_law) .none kV8 dc8 pm8 an8 cd8 ct8), sl8⟩)
    (c8 : PySem.W.codeIn K cd8 "law" = true)
    (k8 : PySem.W.keepIn K (.ref f8) = true)
    (pgSealer : PySem.W.plainGet K C_Sealer Str.empty = true)
    (hdSealer : PySem.W.hasDictIn K C_Sealer = true)
    (poSealer : PySem.W.plainOver K C_Sealer = true)
    (saSealer : PySem.W.findIn K (.ref C_Sealer) "__setattr__" = some (some (.builtin "object.__setattr__")))
    (mkSealer : PySem.W.makesIn K C_Sealer = true)
    (kcSealer : PySem.W.keepIn K (.ref C_Sealer) = true)
    (nSealer_marks : PySem.W.findIn K (.ref C_Sealer) "_marks" = some none)
    (nSealer_texts : PySem.W.findIn K (.ref C_Sealer) "_texts" = some none)
    (zrange : PySem.W.nsIn K mainGlobals "range" = some none)
    (zlen : PySem.W.nsIn K mainGlobals "len" = some none)
    (zabs : PySem.W.nsIn K mainGlobals "abs" = some none)
    (zint : PySem.W.nsIn K mainGlobals "int" = some none)
    (zisinstance : PySem.W.nsIn K mainGlobals "isinstance" = some none)
    (ztuple : PySem.W.nsIn K mainGlobals "tuple" = some none)
    (zlist : PySem.W.nsIn K mainGlobals "list" = some none)
    (zzip : PySem.W.nsIn K mainGlobals "zip" = some none)
    (zbool : PySem.W.nsIn K mainGlobals "bool" = some none) :
    ∃ fd : FuncData, (∀ (s : Shared) (v : Value), BindsTo s fd ⟨[v], []⟩ [("script", v)]) ∧ ∀ base : Heap, K.In base → base.Ns mainGlobals mg → FnOk l.prog w K mg base CX0 4 fa fd ["script"] (spLaw K) := by
  have e := hfa.symm.trans (PySem.W.mg_of X G a8)
  cases e
  let T : Txt K mg := {
    f_spelled := f0, d_spelled := PySem.W.fnOf "spelled" "spelled" (defArgs s_spelled) (defBody s_spelled) (defScope s_spelled) .none kV0 dc0 pm0 an0 cd0 ct0, F_spelled := fun_mk (st := s_spelled) l0 c0 k0, b_spelled := ((fun_mk (st := s_spelled) l0 c0 k0).binds (ps := p_spelled) fun _ _ _ _ _ _ us hl => match us, hl with | [_], _ => rfl),
    mg_spelled := PySem.W.mg_of X G a0,
    f_is_same := f1, d_is_same := PySem.W.fnOf "is_same" "is_same" (defArgs s_is_same) (defBody s_is_same) (defScope s_is_same) .none kV1 dc1 pm1 an1 cd1 ct1, F_is_same := fun_mk (st := s_is_same) l1 c1 k1, b_is_same := ((fun_mk (st := s_is_same) l1 c1 k1).binds (ps := p_is_same) fun _ _ _ _ _ _ us hl => match us, hl with | [_, _], _ => rfl),
    mg_is_same := PySem.W.mg_of X G a1,
    f_Sealer___init__ := f2, d_Sealer___init__ := PySem.W.fnOf "__init__" "Sealer.__init__" (defArgs s_Sealer___init__) (defBody s_Sealer___init__) (defScope s_Sealer___init__) .none kV2 dc2 pm2 an2 cd2 ct2, F_Sealer___init__ := fun_mk (st := s_Sealer___init__) l2 c2 k2, b_Sealer___init__ := ((fun_mk (st := s_Sealer___init__) l2 c2 k2).binds (ps := p_Sealer___init__) fun _ _ _ _ _ _ us hl => match us, hl with | [_], _ => rfl),
    f_Sealer_mark := f3, d_Sealer_mark := PySem.W.fnOf "mark" "Sealer.mark" (defArgs s_Sealer_mark) (defBody s_Sealer_mark) (defScope s_Sealer_mark) .none kV3 dc3 pm3 an3 cd3 ct3, F_Sealer_mark := fun_mk (st := s_Sealer_mark) l3 c3 k3, b_Sealer_mark := ((fun_mk (st := s_Sealer_mark) l3 c3 k3).binds (ps := p_Sealer_mark) fun _ _ _ _ _ _ us hl => match us, hl with | [_, _], _ => rfl),
    f_Sealer_knows := f4, d_Sealer_knows := PySem.W.fnOf "knows" "Sealer.knows" (defArgs s_Sealer_knows) (defBody s_Sealer_knows) (defScope s_Sealer_knows) .none kV4 dc4 pm4 an4 cd4 ct4, F_Sealer_knows := fun_mk (st := s_Sealer_knows) l4 c4 k4, b_Sealer_knows := ((fun_mk (st := s_Sealer_knows) l4 c4 k4).binds (ps := p_Sealer_knows) fun _ _ _ _ _ _ us hl => match us, hl with | [_, _, _], _ => rfl),
    f__law_state := f5, d__law_state := PySem.W.fnOf "_law_state" "_law_state" (defArgs s__law_state) (defBody s__law_state) (defScope s__law_state) .none kV5 dc5 pm5 an5 cd5 ct5, F__law_state := fun_mk (st := s__law_state) l5 c5 k5, b__law_state := ((fun_mk (st := s__law_state) l5 c5 k5).binds (ps := p__law_state) fun _ _ _ _ _ _ us hl => match us, hl with | [_], _ => rfl),
    mg__law_state := PySem.W.mg_of X G a5,
    f__law_draw := f6, d__law_draw := PySem.W.fnOf "_law_draw" "_law_draw" (defArgs s__law_draw) (defBody s__law_draw) (defScope s__law_draw) .none kV6 dc6 pm6 an6 cd6 ct6, F__law_draw := fun_mk (st := s__law_draw) l6 c6 k6, b__law_draw := ((fun_mk (st := s__law_draw) l6 c6 k6).binds (ps := p__law_draw) fun _ _ _ _ _ _ us hl => match us, hl with | [_, _], _ => rfl),
    mg__law_draw := PySem.W.mg_of X G a6,
    f__law_text := f7, d__law_text := PySem.W.fnOf "_law_text" "_law_text" (defArgs s__law_text) (defBody s__law_text) (defScope s__law_text) .none kV7 dc7 pm7 an7 cd7 ct7, F__law_text := fun_mk (st := s__law_text) l7 c7 k7, b__law_text := ((fun_mk (st := s__law_text) l7 c7 k7).binds (ps := p__law_text) fun _ _ _ _ _ _ us hl => match us, hl with | [_, _], _ => rfl),
    mg__law_text := PySem.W.mg_of X G a7,
    f_law := fa, d_law := PySem.W.fnOf "law" "law" (defArgs s_law) (defBody s_law) (defScope s_law) .none kV8 dc8 pm8 an8 cd8 ct8, F_law := fun_mk (st := s_law) l8 c8 k8, b_law := ((fun_mk (st := s_law) l8 c8 k8).binds (ps := p_law) fun _ _ _ _ _ _ us hl => match us, hl with | [_], _ => rfl),
    mg_law := PySem.W.mg_of X G a8,
    C_Sealer := C_Sealer, mg_Sealer := PySem.W.mg_of X G aCSealer, cl_Sealer := ⟨pgSealer, hdSealer, poSealer, saSealer⟩,
    M_Sealer := ⟨mkSealer, a2, i2, kcSealer⟩,
    na_Sealer__marks := nSealer_marks,
    na_Sealer__texts := nSealer_texts,
    m_Sealer_mark := ⟨a3, i3, k3⟩,
    m_Sealer_knows := ⟨a4, i4, k4⟩,
    z_range := PySem.W.mg_none_of X G zrange,
    z_len := PySem.W.mg_none_of X G zlen,
    z_abs := PySem.W.mg_none_of X G zabs,
    z_int := PySem.W.mg_none_of X G zint,
    z_isinstance := PySem.W.mg_none_of X G zisinstance,
    z_tuple := PySem.W.mg_none_of X G ztuple,
    z_list := PySem.W.mg_none_of X G zlist,
    z_zip := PySem.W.mg_none_of X G zzip,
    z_bool := PySem.W.mg_none_of X G zbool }
  exact ⟨_, fun s v => .of_eq rfl, fun base _ _ => ok_law T⟩
theorem walk {l : PySem.W.OpenLaw} {q : Program} {loose : List Str} {XP : (Str → Option Value) → Heap → Prop} {YP : World → Heap → Prop} {d : DefRec} {K : Params → PySem.W.Frag} (hn : l.most = some 63) (hdf : d.params.defaults = [])
    (hY : ∀ (w : World) (h : Heap), YP w h → (K w.params).In h)
    (F : ∀ (w : World) (mg : Str → Option Value) (fa : Addr) (h : Heap), (K w.params).In h → h.Ns mainGlobals mg → mg d.name = some (.ref fa) →
      ∃ fd : FuncData, (∀ (s : Shared) (u : Value), BindsTo s fd ⟨[u], []⟩ [("script", u)]) ∧ ∀ base : Heap, (K w.params).In base → base.Ns mainGlobals mg → FnOk l.prog w (K w.params) mg base CX0 4 fa fd ["script"] (spLaw (K w.params))) :
    PySem.W.WalkO q loose XP YP l.row.toRowW d [] (fun f vs => PySem.call f vs) :=
  L2.walk_of (n := 63) (k := 4) (x := "script") (CX := fun _ => CX0) (sp := fun w => spLaw (K w.params)) hn (by decide) hdf ⟨rfl, by decide, by decide⟩ hY F (fun _ _ a ns hl _ hS => ⟨a, ns, rfl, hS, hl, fun _ => rfl⟩) fun _ _ _ _ _ z => z
end Cs
open PySem PySem.W PyProof.Rows in
set_option maxRecDepth 100000 in
set_option maxHeartbeats 0 in
theorem PySem.Challenge.cw_caisson_k03_the_sealer_holds : PySem.Challenge.rw_caisson_k03_the_sealer.Holds := by
  w_on; o_law; k_head; (case hw => w_witness2)
  k_fill
  refine Cs.walk (l := PySem.Challenge.rw_caisson_k03_the_sealer) rfl rfl (fun w h Y => PySem.W.kIn_of Y) ?F
  case F =>
    intro w mg fa h KX G hmg
    refine' Cs.all_mk KX G hmg ?aCSealer ?a0 ?l0 ?c0 ?k0 ?a1 ?l1 ?c1 ?k1 ?a2 ?i2 ?l2 ?c2 ?k2 ?a3 ?i3 ?l3 ?c3 ?k3 ?a4 ?i4 ?l4 ?c4 ?k4 ?a5 ?l5 ?c5 ?k5 ?a6 ?l6 ?c6 ?k6 ?a7 ?l7 ?c7 ?k7 ?a8 ?l8 ?c8 ?k8 ?pgSealer ?hdSealer ?poSealer ?saSealer ?mkSealer ?kcSealer ?nSealer_marks ?nSealer_texts ?zrange ?zlen ?zabs ?zint ?zisinstance ?ztuple ?zlist ?zzip ?zbool
    (case aCSealer => k_is)
    (case a0 => k_is)
    (case l0 => k_is)
    (case c0 => k_is)
    (case k0 => k_is)
    (case a1 => k_is)
    (case l1 => k_is)
    (case c1 => k_is)
    (case k1 => k_is)
    (case a2 => k_is)
    (case i2 => k_is)
    (case l2 => k_is)
    (case c2 => k_is)
    (case k2 => k_is)
    (case a3 => k_is)
    (case i3 => k_is)
    (case l3 => k_is)
    (case c3 => k_is)
    (case k3 => k_is)
    (case a4 => k_is)
    (case i4 => k_is)
    (case l4 => k_is)
    (case c4 => k_is)
    (case k4 => k_is)
    (case a5 => k_is)
    (case l5 => k_is)
    (case c5 => k_is)
    (case k5 => k_is)
    (case a6 => k_is)
    (case l6 => k_is)
    (case c6 => k_is)
    (case k6 => k_is)
    (case a7 => k_is)
    (case l7 => k_is)
    (case c7 => k_is)
    (case k7 => k_is)
    (case a8 => k_is)
    (case l8 => k_is)
    (case c8 => k_is)
    (case k8 => k_is)
    (case pgSealer => k_is)
    (case hdSealer => k_is)
    (case poSealer => k_is)
    (case saSealer => k_is)
    (case mkSealer => k_is)
    (case kcSealer => k_is)
    (case nSealer_marks => k_is)
    (case nSealer_texts => k_is)
    (case zrange => k_is)
    (case zlen => k_is)
    (case zabs => k_is)
    (case zint => k_is)
    (case zisinstance => k_is)
    (case ztuple => k_is)
    (case zlist => k_is)
    (case zzip => k_is)
    (case zbool => k_is)
#print axioms PySem.Challenge.cw_caisson_k03_the_sealer_holds

