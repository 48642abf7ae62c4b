import PyProof.Rows.All
import Wide.All
import OpenK.AllK
import Wide.FinOn
import HandS.ForMost
import HandS.Style
import HandS.RevRange
import HandS.TupSets
import HandS.MakeKwOnly
import HandS.SetBool
import HandS.TupLe
import HandS.TupAny
import HandS.IsInst
import HandS.Deep
import PySem.Challenge.RW_caisson_k02_ways
set_option Elab.async false
set_option maxRecDepth 100000
namespace Cs
open PySem L2
def top (i : Nat) : Stmt := PySem.Challenge.pw_caisson_k02_ways.main.body.getD i (.Pass ⟨0, 0, 0, 0⟩)
abbrev s_leaves_below : Stmt := top 7
abbrev s_is_depth : Stmt := top 8
abbrev s_out_of_range : Stmt := top 9
abbrev s_Shape___init__ : Stmt := inClass (top 10) 0
abbrev s_Shape_leaves : Stmt := inClass (top 10) 1
abbrev s_Shape_way : Stmt := inClass (top 10) 2
abbrev s_Shape_cells : Stmt := inClass (top 10) 3
abbrev s_Shape_ample : Stmt := inClass (top 10) 4
abbrev s_prefixes : Stmt := top 11
abbrev s_needed : Stmt := top 12
abbrev s__law_state : Stmt := top 14
abbrev s__law_draw : Stmt := top 15
abbrev s__law_shape : Stmt := top 16
abbrev s__law_leaves : Stmt := top 17
abbrev s__law_way : Stmt := top 18
abbrev s_law : Stmt := top 19
abbrev n_leaves_below : List Str := ["fanout", "levels", "number", "_"]
abbrev p_leaves_below : List Str := ["fanout", "levels"]
theorem sc_leaves_below : FnScope n_leaves_below p_leaves_below (defScope s_leaves_below) := ⟨rfl, rfl, rfl, by decide +kernel, rfl, by decide +kernel, by decide +kernel⟩
abbrev n_is_depth : List Str := ["fanout", "depth"]
abbrev p_is_depth : List Str := ["fanout", "depth"]
theorem sc_is_depth : FnScope n_is_depth p_is_depth (defScope s_is_depth) := ⟨rfl, rfl, rfl, by decide +kernel, rfl, by decide +kernel, by decide +kernel⟩
abbrev n_out_of_range : List Str := ["shape"]
abbrev p_out_of_range : List Str := ["shape"]
theorem sc_out_of_range : FnScope n_out_of_range p_out_of_range (defScope s_out_of_range) := ⟨rfl, rfl, rfl, by decide +kernel, rfl, by decide +kernel, by decide +kernel⟩
abbrev n_Shape___init__ : List Str := ["self", "fanout", "depth", "words", "blocks", "snapshots", "wrong"]
abbrev p_Shape___init__ : List Str := ["self", "fanout", "depth", "words", "blocks", "snapshots"]
theorem sc_Shape___init__ : FnScope n_Shape___init__ p_Shape___init__ (defScope s_Shape___init__) := ⟨rfl, rfl, rfl, by decide +kernel, rfl, by decide +kernel, by decide +kernel⟩
abbrev n_Shape_leaves : List Str := ["self"]
abbrev p_Shape_leaves : List Str := ["self"]
theorem sc_Shape_leaves : FnScope n_Shape_leaves p_Shape_leaves (defScope s_Shape_leaves) := ⟨rfl, rfl, rfl, by decide +kernel, rfl, by decide +kernel, by decide +kernel⟩
abbrev n_Shape_way : List Str := ["self", "index", "digits", "rest", "_"]
abbrev p_Shape_way : List Str := ["self", "index"]
theorem sc_Shape_way : FnScope n_Shape_way p_Shape_way (defScope s_Shape_way) := ⟨rfl, rfl, rfl, by decide +kernel, rfl, by decide +kernel, by decide +kernel⟩
abbrev n_Shape_cells : List Str := ["self", "level"]
abbrev p_Shape_cells : List Str := ["self"]
theorem sc_Shape_cells : FnScope n_Shape_cells p_Shape_cells (defScope s_Shape_cells) := ⟨rfl, rfl, rfl, by decide +kernel, rfl, by decide +kernel, by decide +kernel⟩
abbrev n_Shape_ample : List Str := ["self"]
abbrev p_Shape_ample : List Str := ["self"]
theorem sc_Shape_ample : FnScope n_Shape_ample p_Shape_ample (defScope s_Shape_ample) := ⟨rfl, rfl, rfl, by decide +kernel, rfl, by decide +kernel, by decide +kernel⟩
abbrev n_prefixes : List Str := ["shape", "indexes", "ways", "index", "inner", "length", "way"]
abbrev p_prefixes : List Str := ["shape", "indexes"]
theorem sc_prefixes : FnScope n_prefixes p_prefixes (defScope s_prefixes) := ⟨rfl, rfl, rfl, by decide +kernel, rfl, by decide +kernel, by decide +kernel⟩
abbrev n_needed : List Str := ["shape", "indexes"]
abbrev p_needed : List Str := ["shape", "indexes"]
theorem sc_needed : FnScope n_needed p_needed (defScope s_needed) := ⟨rfl, rfl, rfl, by decide +kernel, rfl, by decide +kernel, by decide +kernel⟩
abbrev n__law_state : List Str := ["script", "seed", "cell"]
abbrev p__law_state : List Str := ["script"]
theorem sc__law_state : FnScope n__law_state p__law_state (defScope s__law_state) := ⟨rfl, rfl, rfl, by decide +kernel, rfl, by decide +kernel, by decide +kernel⟩
abbrev n__law_draw : List Str := ["state", "many", "cells", "value", "mixed"]
abbrev p__law_draw : List Str := ["state", "many"]
theorem sc__law_draw : FnScope n__law_draw p__law_draw (defScope s__law_draw) := ⟨rfl, rfl, rfl, by decide +kernel, rfl, by decide +kernel, by decide +kernel⟩
abbrev n__law_shape : List Str := ["state", "blocks", "fanout", "depth", "words", "snapshots", "cells", "wide", "level", "ample", "many"]
abbrev p__law_shape : List Str := ["state", "blocks"]
theorem sc__law_shape : FnScope n__law_shape p__law_shape (defScope s__law_shape) := ⟨rfl, rfl, rfl, by decide +kernel, rfl, by decide +kernel, by decide +kernel⟩
abbrev n__law_leaves : List Str := ["shape", "total", "level"]
abbrev p__law_leaves : List Str := ["shape"]
theorem sc__law_leaves : FnScope n__law_leaves p__law_leaves (defScope s__law_leaves) := ⟨rfl, rfl, rfl, by decide +kernel, rfl, by decide +kernel, by decide +kernel⟩
abbrev n__law_way : List Str := ["shape", "index", "way", "low", "many", "child"]
abbrev p__law_way : List Str := ["shape", "index"]
theorem sc__law_way : FnScope n__law_way p__law_way (defScope s__law_way) := ⟨rfl, rfl, rfl, by decide +kernel, rfl, by decide +kernel, by decide +kernel⟩
abbrev n_law : List Str := ["script", "state", "shape", "leaves", "indexes", "k", "index", "due", "length", "row", "way"]
abbrev p_law : List Str := ["script"]
theorem sc_law : FnScope n_law p_law (defScope s_law) := ⟨rfl, rfl, rfl, by decide +kernel, rfl, by decide +kernel, by decide +kernel⟩
structure Txt (K : PySem.W.Frag) (mg : Str → Option Value) where
  f_leaves_below : Addr
  d_leaves_below : FuncData
  F_leaves_below : Fun K "leaves_below" "leaves_below" s_leaves_below f_leaves_below d_leaves_below
  b_leaves_below : Binds K d_leaves_below p_leaves_below []
  mg_leaves_below : mg "leaves_below" = some (.ref f_leaves_below)
  f_is_depth : Addr
  d_is_depth : FuncData
  F_is_depth : Fun K "is_depth" "is_depth" s_is_depth f_is_depth d_is_depth
  b_is_depth : Binds K d_is_depth p_is_depth []
  mg_is_depth : mg "is_depth" = some (.ref f_is_depth)
  f_out_of_range : Addr
  d_out_of_range : FuncData
  F_out_of_range : Fun K "out_of_range" "out_of_range" s_out_of_range f_out_of_range d_out_of_range
  b_out_of_range : Binds K d_out_of_range p_out_of_range []
  mg_out_of_range : mg "out_of_range" = some (.ref f_out_of_range)
  f_Shape___init__ : Addr
  d_Shape___init__ : FuncData
  F_Shape___init__ : FunD K "__init__" "Shape.__init__" (defArgs s_Shape___init__) (defBody s_Shape___init__) (defScope s_Shape___init__) [] [("snapshots", V.int 0)] f_Shape___init__ d_Shape___init__
  f_Shape_leaves : Addr
  d_Shape_leaves : FuncData
  F_Shape_leaves : Fun K "leaves" "Shape.leaves" s_Shape_leaves f_Shape_leaves d_Shape_leaves
  b_Shape_leaves : Binds K d_Shape_leaves p_Shape_leaves []
  f_Shape_way : Addr
  d_Shape_way : FuncData
  F_Shape_way : Fun K "way" "Shape.way" s_Shape_way f_Shape_way d_Shape_way
  b_Shape_way : Binds K d_Shape_way p_Shape_way []
  f_Shape_cells : Addr
  d_Shape_cells : FuncData
  F_Shape_cells : Fun K "cells" "Shape.cells" s_Shape_cells f_Shape_cells d_Shape_cells
  b_Shape_cells : Binds K d_Shape_cells p_Shape_cells []
  f_Shape_ample : Addr
  d_Shape_ample : FuncData
  F_Shape_ample : Fun K "ample" "Shape.ample" s_Shape_ample f_Shape_ample d_Shape_ample
  b_Shape_ample : Binds K d_Shape_ample p_Shape_ample []
  f_prefixes : Addr
  d_prefixes : FuncData
  F_prefixes : Fun K "prefixes" "prefixes" s_prefixes f_prefixes d_prefixes
  b_prefixes : Binds K d_prefixes p_prefixes []
  mg_prefixes : mg "prefixes" = some (.ref f_prefixes)
  f_needed : Addr
  d_needed : FuncData
  F_needed : Fun K "needed" "needed" s_needed f_needed d_needed
  b_needed : Binds K d_needed p_needed []
  mg_needed : mg "needed" = some (.ref f_needed)
  f__law_state : Addr
  d__law_state : FuncData
  F__law_state : Fun K "_law_state" "_law_state" s__law_state f__law_state d__law_state
  b__law_state : Binds K d__law_state p__law_state []
  mg__law_state : mg "_law_state" = some (.ref f__law_state)
  f__law_draw : Addr
  d__law_draw : FuncData
  F__law_draw : Fun K "_law_draw" "_law_draw" s__law_draw f__law_draw d__law_draw
  b__law_draw : Binds K d__law_draw p__law_draw []
  mg__law_draw : mg "_law_draw" = some (.ref f__law_draw)
  f__law_shape : Addr
  d__law_shape : FuncData
  F__law_shape : Fun K "_law_shape" "_law_shape" s__law_shape f__law_shape d__law_shape
  b__law_shape : Binds K d__law_shape p__law_shape []
  mg__law_shape : mg "_law_shape" = some (.ref f__law_shape)
  f__law_leaves : Addr
  d__law_leaves : FuncData
  F__law_leaves : Fun K "_law_leaves" "_law_leaves" s__law_leaves f__law_leaves d__law_leaves
  b__law_leaves : Binds K d__law_leaves p__law_leaves []
  mg__law_leaves : mg "_law_leaves" = some (.ref f__law_leaves)
  f__law_way : Addr
  d__law_way : FuncData
  F__law_way : Fun K "_law_way" "_law_way" s__law_way f__law_way d__law_way
  b__law_way : Binds K d__law_way p__law_way []
  mg__law_way : mg "_law_way" = some (.ref f__law_way)
  f_law : Addr
  d_law : FuncData
  F_law : Fun K "law" "law" s_law f_law d_law
  b_law : Binds K d_law p_law []
  mg_law : mg "law" = some (.ref f_law)
  C_Shape : Addr
  mg_Shape : mg "Shape" = some (.ref C_Shape)
  cl_Shape : Cls K C_Shape
  kb_Shape : KBn K d_Shape___init__ p_Shape___init__ 1 ["fanout", "depth", "words", "blocks", "snapshots"] (fun us ws => us ++ ws) (fun vs zs => vs ++ zs)
  M_Shape : Mk K C_Shape f_Shape___init__
  na_Shape_fanout : NoAttr K C_Shape "fanout"
  na_Shape_depth : NoAttr K C_Shape "depth"
  na_Shape_words : NoAttr K C_Shape "words"
  na_Shape_blocks : NoAttr K C_Shape "blocks"
  na_Shape_snapshots : NoAttr K C_Shape "snapshots"
  m_Shape_leaves : Meth K C_Shape "leaves" f_Shape_leaves
  m_Shape_way : Meth K C_Shape "way" f_Shape_way
  m_Shape_cells : Meth K C_Shape "cells" f_Shape_cells
  m_Shape_ample : Meth K C_Shape "ample" f_Shape_ample
  t_MOST_DEPTH : Tok
  mg_MOST_DEPTH : mg "MOST_DEPTH" = some (.int 6 t_MOST_DEPTH)
  t_MOST_LEAVES : Tok
  mg_MOST_LEAVES : mg "MOST_LEAVES" = some (.int 64 t_MOST_LEAVES)
  t_MOST_BLOCKS : Tok
  mg_MOST_BLOCKS : mg "MOST_BLOCKS" = some (.int 1000 t_MOST_BLOCKS)
  z_range : mg "range" = none
  z_len : mg "len" = none
  z_abs : mg "abs" = none
  z_int : mg "int" = none
  z_sum : mg "sum" = none
  z_min : mg "min" = none
  z_max : mg "max" = none
  z_reversed : mg "reversed" = none
  z_sorted : mg "sorted" = none
  z_list : mg "list" = none
  z_tuple : mg "tuple" = none
  z_isinstance : mg "isinstance" = none
/-! ### the law's own stream of numbers -/
/-- at a: the list of the numbers left (at c) and the seed -/
def StA (a c : Addr) (H : Hp) : Prop := ∃ (ns : List Int) (z : Int), a ≠ c ∧ H a = some (.lst [.ref c, .int z]) ∧ H c = some (.lst (ns.map V.int)) ∧ ns.length ≤ 63 ∧ (∀ n ∈ ns, 0 ≤ n) ∧ 0 ≤ z ∧ z < 2147483647
/-- nothing else that stood has changed -/
def Kp (a c : Addr) (H H' : Hp) : Prop := ∀ b o, b ≠ a → b ≠ c → H b = some o → H' b = some o
theorem Kp.refl {a c : Addr} (H : Hp) : Kp a c H H := fun _ _ _ _ h => h
theorem Kp.trans {a c : Addr} {H H1 H2 : Hp} (x : Kp a c H H1) (y : Kp a c H1 H2) : Kp a c H H2 := fun b o h1 h2 e => y b o h1 h2 (x b o h1 h2 e)
theorem Kp.upd1 {a c : Addr} {H H1 : Hp} {o : HO} (x : Kp a c H H1) : Kp a c H (upd H1 a o) := fun b o h1 h2 e => (upd_ne h1).trans (x b o h1 h2 e)
theorem Kp.upd2 {a c : Addr} {H H1 : Hp} {o : HO} (x : Kp a c H H1) : Kp a c H (upd H1 c o) := fun b o h1 h2 e => (upd_ne h2).trans (x b o h1 h2 e)
theorem Kp.same {a c : Addr} {H H1 : Hp} (x : Same H H1) : Kp a c H H1 := fun b o _ _ e => x b o e
theorem Same.new {H : Hp} {p : Addr} {o : HO} (h : H p = none) : Same H (upd H p o) := fun b o e => by rw [upd_ne (ne_of_none e h)]; exact e
def spState (K : PySem.W.Frag) : Sp := fun vs H Q _ => ∃ (l : Addr) (ns : List Int), vs = [.ref l] ∧ SqL K H l (ns.map V.int) ∧ ns.length ≤ 63 ∧
  ∀ (a c : Addr) (H' : Hp), H a = none → H c = none → StA a c H' → Same H H' → Q (.ref a) H'
def spDraw : Sp := fun vs H Q _ => ∃ (a c : Addr) (m : Int), vs = [.ref a, .int m] ∧ StA a c H ∧ 1 ≤ m ∧ m < 1000000 ∧
  ∀ (r : Int) (H' : Hp), 0 ≤ r → r < m → StA a c H' → Kp a c H H' → Q (.int r) H'
theorem int_at {ns : List Int} {i : Nat} {y : V} (hi : (ns.map V.int)[i]? = some y) : ∃ u, ns[i]? = some u ∧ y = V.int u := by
  rw [List.getElem?_map] at hi
  cases e : ns[i]? with
  | none => rw [e] at hi; cases hi
  | some u => rw [e] at hi; exact ⟨u, rfl, (Option.some.inj hi).symm⟩
theorem upd_eq {H : Hp} {a : Addr} {o : HO} (h : H a = some o) : upd H a o = H := by
  funext b
  by_cases e : b = a
  · rw [e, upd_same, h]
  · rw [upd_ne e]
theorem iteDT {c A B : Prop} [Decidable c] (hc : c) (h : A) : if decide c = true then A else B := by
  rw [if_pos (decide_eq_true hc)]
  exact h
theorem iteDF {c A B : Prop} [Decidable c] (hc : ¬ c) (h : B) : if decide c = true then A else B := by
  rw [if_neg (by rw [decide_eq_false hc]; decide)]
  exact h
theorem ixN_nat {n j : Nat} (h : j < n) : ixN n (j : Int) = some j := by
  unfold ixN
  rw [if_pos (by omega), if_pos (by omega)]
  simp
theorem seqIx_nat {n j : Nat} (h : j < n) : seqIndex? (j : Int) n = some j := (ixN_seq (ixN_nat h)).1
theorem StA.keep {a c : Addr} {H H' : Hp} (h : StA a c H) (k : Same H H') : StA a c H' := by
  obtain ⟨ns, z, h1, h2, h3, h4⟩ := h
  exact ⟨ns, z, h1, k _ _ h2, k _ _ h3, h4⟩
theorem StA.ne {a c : Addr} {H : Hp} (h : StA a c H) : a ≠ c := by obtain ⟨_, _, h, _⟩ := h; exact h
theorem StA.some1 {a c : Addr} {H : Hp} (h : StA a c H) : ∃ o, H a = some o := by obtain ⟨_, _, _, h, _⟩ := h; exact ⟨_, h⟩
theorem StA.some2 {a c : Addr} {H : Hp} (h : StA a c H) : ∃ o, H c = some o := by obtain ⟨_, _, _, _, h, _⟩ := h; exact ⟨_, h⟩

/-! ### shapes -/
def shF (f d w b s : Int) : List (Str × V) := [("fanout", .int f), ("depth", .int d), ("words", .int w), ("blocks", .int b), ("snapshots", .int s)]
def ShAt (C : Addr) (H : Hp) (p : Addr) (f d w b s : Int) : Prop := ∃ dx, H p = some (.ins C dx (shF f d w b s))
/-- in range -/
def ShOk (f d w b s : Int) : Prop := 2 ≤ f ∧ f ≤ 4 ∧ 1 ≤ d ∧ d ≤ 6 ∧ f ^ d.toNat ≤ 64 ∧ 1 ≤ w ∧ w ≤ 4 ∧ d + 1 ≤ b ∧ b ≤ 1000 ∧ 0 ≤ s ∧ s ≤ 3
def oor (f d w b s : Int) : Option Str := if ¬ (2 ≤ f ∧ f ≤ 4) then some ("fanout" : Str) else if ¬ (1 ≤ d ∧ d ≤ 6 ∧ f ^ d.toNat ≤ 64) then some ("depth" : Str) else
  if ¬ (1 ≤ w ∧ w ≤ 4) then some ("words" : Str) else if ¬ (d + 1 ≤ b ∧ b ≤ 1000) then some ("blocks" : Str) else if ¬ (0 ≤ s ∧ s ≤ 3) then some ("snapshots" : Str) else none
def spLB : Sp := fun vs H Q _ => ∃ f d : Int, vs = [.int f, .int d] ∧ 2 ≤ f ∧ f ≤ 4 ∧ 0 ≤ d ∧ d ≤ 6 ∧ Q (.int (f ^ d.toNat)) H
def spDp : Sp := fun vs H Q _ => ∃ f d : Int, vs = [.int f, .int d] ∧ 2 ≤ f ∧ f ≤ 4 ∧ ∀ r : Bool, (r = true ↔ (1 ≤ d ∧ d ≤ 6 ∧ f ^ d.toNat ≤ 64)) → Q (.bl r) H
def optS : Option Str → V | some x => .str x | none => .non
def spOor (C : Addr) : Sp := fun vs H Q _ => ∃ (p : Addr) (f d w b s : Int), vs = [.ref p] ∧ ShAt C H p f d w b s ∧ Q (optS (oor f d w b s)) H
def spShape (C : Addr) : Sp := fun vs H Q _ => ∃ (p dx : Addr) (f d w b s : Int), vs = [.ref p, .int f, .int d, .int w, .int b, .int s] ∧ H p = some (.ins C dx []) ∧ ShOk f d w b s ∧ Q .non (upd H p (.ins C dx (shF f d w b s)))
def spLeaves (C : Addr) : Sp := fun vs H Q _ => ∃ (p : Addr) (f d w b s : Int), vs = [.ref p] ∧ ShAt C H p f d w b s ∧ ShOk f d w b s ∧ Q (.int (f ^ d.toNat)) H
example (f d w b s : Int) : (shF f d w b s).lookup ("depth" : Str) = some (.int d) := rfl
example (f d w b s : Int) : (shF f d w b s).lookup ("way" : Str) = none := rfl
example (f d w b s : Int) : putF "snapshots" (.int s) (putF "blocks" (.int b) (putF "words" (.int w) (putF "depth" (.int d) (putF "fanout" (.int f) [])))) = shF f d w b s := rfl
/-- the digits of i to the base f, the highest of n first -/
def wayV (f : Int) (n : Nat) (i : Int) : List Int := ((List.range n).map fun j => i / f ^ j % f).reverse
theorem wayV_len (f : Int) (n : Nat) (i : Int) : (wayV f n i).length = n := by simp [wayV]
def spWay (C : Addr) : Sp := fun vs H Q _ => ∃ (p : Addr) (f d w b s i : Int), vs = [.ref p, .int i] ∧ ShAt C H p f d w b s ∧ ShOk f d w b s ∧ 0 ≤ i ∧
  ∀ (t : Addr) (H' : Hp), H t = none → Same H H' → H' t = some (.tup ((wayV f d.toNat i).map V.int)) → Q (.ref t) H'
/-- the cells of the first n levels -/
def cN (f : Int) : Nat → Int
  | 0 => 0
  | n + 1 => cN f n + f ^ n
theorem cN_bd {f : Int} {n : Nat} (h1 : 2 ≤ f) (h2 : f ≤ 4) (h3 : 1 ≤ n) (h4 : n ≤ 6) (h5 : f ^ n ≤ 64) : (n : Int) + 1 ≤ cN f (n + 1) ∧ cN f (n + 1) ≤ 127 := by
  have hf : f = 2 ∨ f = 3 ∨ f = 4 := by omega
  have hn : n = 1 ∨ n = 2 ∨ n = 3 ∨ n = 4 ∨ n = 5 ∨ n = 6 := by omega
  rcases hf with rfl | rfl | rfl <;> rcases hn with rfl | rfl | rfl | rfl | rfl | rfl <;> first | (exact absurd h5 (by decide)) | decide
def spLShape (C : Addr) : Sp := fun vs H Q _ => ∃ (a c : Addr) (j : Int), vs = [.ref a, .int j] ∧ StA a c H ∧ 0 ≤ j ∧ j ≤ 2 ∧
  ∀ (p : Addr) (f d w b s : Int) (H' : Hp), H p = none → ShAt C H' p f d w b s → ShOk f d w b s → (j = 0 → b = (s + 2) * cN f (d.toNat + 1)) → StA a c H' → Kp a c H H' → Q (.ref p) H'
def spLLeaves (C : Addr) : Sp := spLeaves C

/-! ### ways as numbers -/
theorem wayV_succ (f : Int) (n : Nat) (i : Int) : wayV f (n + 1) i = (i / f ^ n % f) :: wayV f n i := by
  unfold wayV
  rw [List.range_succ, List.map_append, List.reverse_append]
  rfl
theorem wayV_bd {f : Int} (hf : 0 < f) : ∀ (n : Nat) (i : Int), TS.Bd f (wayV f n i)
  | 0, i => fun m hm => absurd hm (by simp [wayV])
  | n + 1, i => fun m hm => by
    rw [wayV_succ] at hm
    rcases List.mem_cons.mp hm with rfl | hm
    · exact ⟨Int.emod_nonneg _ (by omega), Int.emod_lt_of_pos _ hf⟩
    · exact wayV_bd hf n i m hm
theorem emod_pow_step (c : Int) {P f : Int} (hP : 0 < P) (hf : 0 < f) : c / P % f * P + c % P = c % (P * f) := by
  have e1 := Int.emod_add_mul_ediv c P
  have e2 := Int.emod_add_mul_ediv (c / P) f
  have r0 := Int.emod_nonneg c (Int.ne_of_gt hP)
  have r1 := Int.emod_lt_of_pos c hP
  have s0 := Int.emod_nonneg (c / P) (Int.ne_of_gt hf)
  have s1 := Int.emod_lt_of_pos (c / P) hf
  generalize c / P % f = s at *
  generalize c % P = r at *
  generalize c / P / f = u at *
  have e3 : c = s * P + r + P * f * u := by
    rw [← e1, ← e2, Int.mul_add, Int.mul_comm s P, Int.mul_assoc P f u]
    omega
  have b0 : 0 ≤ s * P := Int.mul_nonneg s0 (by omega)
  have b1 : (s + 1) * P ≤ f * P := Int.mul_le_mul_of_nonneg_right (by omega) (by omega)
  rw [Int.add_mul, Int.one_mul, Int.mul_comm f P] at b1
  rw [e3, Int.add_mul_emod_self_left, Int.emod_eq_of_lt (by omega) (by omega)]
theorem code_wayV {f : Int} (hf : 0 < f) : ∀ (n : Nat) (c : Int), TS.code f (wayV f n c) = c % f ^ n
  | 0, c => by
    rw [Int.pow_zero, Int.emod_one]
    rfl
  | n + 1, c => by
    rw [wayV_succ]
    show c / f ^ n % f * f ^ (wayV f n c).length + TS.code f (wayV f n c) = _
    rw [wayV_len, code_wayV hf n c, Int.pow_succ, emod_pow_step c (Int.pow_pos hf) hf]
theorem wayV_get (f : Int) {n k : Nat} (i : Int) (h : k < n) : (wayV f n i)[k]? = some (i / f ^ (n - 1 - k) % f) := by
  unfold wayV
  rw [List.getElem?_reverse (by simpa using h)]
  simp only [List.length_map, List.length_range, List.getElem?_map]
  rw [List.getElem?_range (by omega)]
  rfl
theorem wayV_take {f : Int} (hf : 0 < f) {d m : Nat} (i : Int) (h : m ≤ d) : (wayV f d i).take m = wayV f m (i / f ^ (d - m)) := by
  refine List.ext_getElem? fun k => ?_
  by_cases hk : k < m
  · rw [List.getElem?_take_of_lt hk, wayV_get f i (by omega), wayV_get f _ hk, Int.ediv_ediv_of_nonneg (Int.pow_nonneg (by omega)), ← Int.pow_add]
    congr 4
    omega
  · rw [List.getElem?_eq_none (by rw [List.length_take, wayV_len]; omega), List.getElem?_eq_none (by rw [wayV_len]; omega)]
theorem pow_nat {f : Int} (hf : 0 < f) (m : Nat) : ((f.toNat ^ m : Nat) : Int) = f ^ m := by
  rw [Int.natCast_pow]
  congr 1
  omega
/-- the numbers of the inner cells of level m above the leaves idx, ascending -/
def preC (f : Int) (d : Nat) (idx : List Int) (m : Nat) : List Int := ((List.range (f.toNat ^ m)).map Int.ofNat).filter fun c => idx.any fun i => decide (i / f ^ (d - m) = c)
theorem div_lt {f : Int} (hf : 0 < f) {d m : Nat} {i : Int} (h : m ≤ d) (h0 : 0 ≤ i) (h1 : i < f ^ d) : 0 ≤ i / f ^ (d - m) ∧ i / f ^ (d - m) < f ^ m := by
  have hp : 0 < f ^ (d - m) := Int.pow_pos hf
  refine ⟨Int.ediv_nonneg h0 (by omega), Int.ediv_lt_of_lt_mul hp ?_⟩
  rw [← Int.pow_add, show m + (d - m) = d by omega]
  exact h1
theorem mem_preC {f : Int} (hf : 0 < f) {d m : Nat} {idx : List Int} (h : m ≤ d) (hi : ∀ i ∈ idx, 0 ≤ i ∧ i < f ^ d) {c : Int} : c ∈ preC f d idx m ↔ ∃ i ∈ idx, i / f ^ (d - m) = c := by
  unfold preC
  rw [List.mem_filter, List.any_eq_true]
  constructor
  · rintro ⟨_, i, m1, m2⟩
    exact ⟨i, m1, of_decide_eq_true m2⟩
  · rintro ⟨i, m1, rfl⟩
    obtain ⟨a, b⟩ := div_lt hf h (hi i m1).1 (hi i m1).2
    refine ⟨List.mem_map.mpr ⟨(i / f ^ (d - m)).toNat, List.mem_range.mpr ?_, Int.toNat_of_nonneg a⟩, i, m1, decide_eq_true rfl⟩
    have := pow_nat hf m
    omega
theorem preC_bd {f : Int} (hf : 0 < f) {d m : Nat} {idx : List Int} {c : Int} (h : c ∈ preC f d idx m) : 0 ≤ c ∧ c < f ^ m := by
  obtain ⟨k, hk, rfl⟩ := List.mem_map.mp (List.mem_filter.mp h).1
  have := List.mem_range.mp hk
  have := pow_nat hf m
  show 0 ≤ (k : Int) ∧ (k : Int) < _
  omega
theorem preC_lt (f : Int) (d : Nat) (idx : List Int) (m : Nat) : (preC f d idx m).Pairwise (· < ·) := by
  refine List.Pairwise.sublist List.filter_sublist ?_
  rw [List.pairwise_map]
  exact List.Pairwise.imp (R := fun a b : Nat => a < b) (fun {a b} h => (show (a : Int) < (b : Int) by omega)) List.pairwise_lt_range
theorem preC_len {f : Int} (hf : 0 < f) (d : Nat) (idx : List Int) (m : Nat) : ((preC f d idx m).length : Int) ≤ f ^ m := by
  have h := (List.filter_sublist (l := (List.range (f.toNat ^ m)).map Int.ofNat) (p := fun c => idx.any fun i => decide (i / f ^ (d - m) = c))).length_le
  rw [List.length_map, List.length_range] at h
  have := pow_nat hf m
  show ((preC f d idx m).length : Int) ≤ _
  unfold preC
  omega
/-- ways of one length that are told apart by their numbers are not many -/
theorem ways_few {f : Int} (hf : 0 < f) {m : Nat} {L : List (List Int)} (hn : L.Nodup) (h : ∀ ns ∈ L, ∃ c : Int, 0 ≤ c ∧ c < f ^ m ∧ ns = wayV f m c) : (L.length : Int) ≤ f ^ m := by
  have k : (L.map fun ns => (TS.code f ns).toNat).Nodup := by
    rw [List.nodup_iff_pairwise_ne, List.pairwise_map]
    refine List.Pairwise.imp_of_mem (fun {a b} ha hb hab e => hab ?_) (List.nodup_iff_pairwise_ne.mp hn)
    obtain ⟨x, x0, x1, rfl⟩ := h a ha
    obtain ⟨y, y0, y1, rfl⟩ := h b hb
    rw [code_wayV hf, code_wayV hf, Int.emod_eq_of_lt x0 x1, Int.emod_eq_of_lt y0 y1] at e
    rw [show x = y by omega]
  have q := nat_nodup_len _ (List.range (f.toNat ^ m)) k fun x hx => by
    obtain ⟨ns, hns, rfl⟩ := List.mem_map.mp hx
    obtain ⟨x, x0, x1, rfl⟩ := h ns hns
    rw [code_wayV hf, Int.emod_eq_of_lt x0 x1, List.mem_range]
    have := pow_nat hf m
    omega
  rw [List.length_map, List.length_range] at q
  have := pow_nat hf m
  omega
/-- the one list of them in ascending order -/
theorem ways_sorted {f : Int} (hf : 0 < f) {d m : Nat} {idx : List Int} (hm : m ≤ d) (hi : ∀ i ∈ idx, 0 ≤ i ∧ i < f ^ d) {L : List (List Int)} (hn : L.Nodup) (hs : L.Pairwise fun a b => TS.code f a ≤ TS.code f b)
    (h : ∀ ns, ns ∈ L ↔ ∃ i ∈ idx, (wayV f d i).take m = ns) : L = (preC f d idx m).map (wayV f m) := by
  have inj : ∀ {x y : Int}, 0 ≤ x → x < f ^ m → 0 ≤ y → y < f ^ m → TS.code f (wayV f m x) ≤ TS.code f (wayV f m y) → x ≤ y := fun {x y} x0 x1 y0 y1 e => by
    rw [code_wayV hf, code_wayV hf, Int.emod_eq_of_lt x0 x1, Int.emod_eq_of_lt y0 y1] at e
    exact e
  have mem : ∀ ns, ns ∈ L ↔ ns ∈ (preC f d idx m).map (wayV f m) := fun ns => by
    rw [h, List.mem_map]
    constructor
    · rintro ⟨i, m1, rfl⟩
      exact ⟨_, (mem_preC hf hm hi).mpr ⟨i, m1, rfl⟩, (wayV_take hf i hm).symm⟩
    · rintro ⟨c, hc, rfl⟩
      obtain ⟨i, m1, rfl⟩ := (mem_preC hf hm hi).mp hc
      exact ⟨i, m1, wayV_take hf i hm⟩
  have of : ∀ {ns}, ns ∈ (preC f d idx m).map (wayV f m) → ∃ c : Int, 0 ≤ c ∧ c < f ^ m ∧ ns = wayV f m c := fun {ns} hm => by
    obtain ⟨c, hc, rfl⟩ := List.mem_map.mp hm
    exact ⟨c, (preC_bd hf hc).1, (preC_bd hf hc).2, rfl⟩
  have hs2 : ((preC f d idx m).map (wayV f m)).Pairwise fun a b => TS.code f a ≤ TS.code f b := by
    rw [List.pairwise_map]
    refine List.Pairwise.imp_of_mem (fun {a b} ha hb hab => ?_) (preC_lt f d idx m)
    rw [code_wayV hf, code_wayV hf, Int.emod_eq_of_lt (preC_bd hf ha).1 (preC_bd hf ha).2, Int.emod_eq_of_lt (preC_bd hf hb).1 (preC_bd hf hb).2]
    omega
  have hn2 : ((preC f d idx m).map (wayV f m)).Nodup := by
    rw [List.nodup_iff_pairwise_ne, List.pairwise_map]
    refine List.Pairwise.imp_of_mem (fun {a b} ha hb hab e => ?_) (preC_lt f d idx m)
    have e := congrArg (TS.code f) e
    rw [code_wayV hf, code_wayV hf, Int.emod_eq_of_lt (preC_bd hf ha).1 (preC_bd hf ha).2, Int.emod_eq_of_lt (preC_bd hf hb).1 (preC_bd hf hb).2] at e
    omega
  refine List.Perm.eq_of_pairwise (fun a b ha hb e1 e2 => ?_) hs hs2 ((List.perm_ext_iff_of_nodup hn hn2).mpr mem)
  obtain ⟨x, x0, x1, rfl⟩ := of ((mem a).mp ha)
  obtain ⟨y, y0, y1, rfl⟩ := of hb
  rw [Int.le_antisymm (inj x0 x1 y0 y1 e1) (inj y0 y1 x0 x1 e2)]
/-- the inner ways of some leaves, as prefixes lists them, from length n on downwards -/
def innerW (f : Int) (d : Nat) (idx : List Int) : Nat → List (List Int)
  | 0 => []
  | n + 1 => (preC f d idx n).map (wayV f n) ++ innerW f d idx n

/-! ### a set comprehension whose members a rule of set.add takes -/
section
open PySem PySem.Spec PyProof.Rows PpSet L2
/-- the object of a new set -/
abbrev freshSet (w : World) : Obj := { cls := .type "set", dict := none, data := .set #[] 0 (.fresh 0 0 (!w.params.followText "set-order")) }
/-- reading: nw what stands for the new set at D; r the rule of set.add -/
def tSG (nw : Addr → HO) (r : V → List V → Hp → VK → Prop) (wi : TI) (g : TG) (te : TE) (vs : List Nat) : TE := fun σ H Q => wi σ H fun J H1 => ∀ D, H1 D = none → ∃ W : Nat → Nat → Hp → Prop, (∃ m, W 0 m (upd H1 D (nw D))) ∧ ∀ i m H, W i m H →
  (J.stop i H ∧ Q (.ref D) H) ∨ (J.go i H ∧ ∃ Nx : Hp → Prop, (∀ H', Nx H' → ∃ m', m' < m ∧ W (i + 1) m' H') ∧ ∀ x H', J.yld i H x H' → g x (wipe σ vs) H' fun σ2 H2 => wipe σ2 vs = wipe σ vs ∧ te σ2 H2 fun y H4 => r (.ref D) [y] H4 fun _ H5 => Nx H5)
variable {X : Cx}
theorem pe_scG {nw : Addr → HO} {r : V → List V → Hp → VK → Prop} {elt tg iter : Expr} {scope : Scope} {own : List (PySem.Str × Nat)} {pos : Pos} {wi : TI} {g : TG} {te : TE}
    (hnw : ∀ (H : Hp) (h : Heap) (D : Addr), h.get? D = some (freshSet X.w) → ObjOk X.prog X.w H h D (nw D))
    (hc : X.calm = true) (hN : X.N.Nodup) (hi : PI X tg iter wi) (ok : BlkOk X.N X.env.scope scope own)
    (hg : ∀ (s : Shared) (H : Hp) (C : Addr) (cl : List (PySem.Str × Addr)) (fp : List Addr), PG (X.blk s H scope (compEnvC scope cl C X.env) fp) tg g)
    (he : ∀ (s : Shared) (H : Hp) (C : Addr) (cl : List (PySem.Str × Addr)) (fp : List Addr), PE (X.blk s H scope (compEnvC scope cl C X.env) fp) elt te)
    (hr : ∀ (s : Shared) (H : Hp) (C : Addr) (cl : List (PySem.Str × Addr)) (fp : List Addr), MtR (X.blk s H scope (compEnvC scope cl C X.env) fp) "set.add" r)
    (hs : ∀ x, foldedSetIterable iter X.env x = pure x := by intro _; rfl) : PE X (.SetComp elt [⟨tg, iter, [], 0⟩] scope pos) (tSG nw r wi g te (own.map (·.2))) := by
  refine ⟨fun pins s σ H Q I h => ?_⟩
  rw [PpSet.eval_SetComp]
  have cellOf : ∀ y ∈ scope.names, y.2 = .free → ∃ c, X.env.cells.lookup y.1 = some c := fun y hy e => (ok.free y hy e).elim (fun k => I.ok.has _ (.inl k)) fun k => I.ok.has _ (.inr k)
  refine wpAny_comprehension_free (use := none) rfl hs (closure_ok cellOf) ok.kind (fun y hy e => by rw [ok.uniq y hy, e]) (thn (hi.run pins s σ H _ I h) fun xv s1 hx => thn hx fun itv s2 h2 => ?_)
  obtain ⟨it, fp, tn, J, H2, e, I2, T, st2, f2, q⟩ := h2
  subst e
  refine PpSet.newSet_ok (newEnv_comp ?_)
  obtain ⟨D, hD⟩ : ∃ D, s2.heap.objs.size = D := ⟨_, rfl⟩
  rw [hD]
  have hDn : H2 D = none := I2.hok.fresh (Nat.le_of_eq hD)
  obtain ⟨W, ⟨m0, w0⟩, turn⟩ := q D hDn
  obtain ⟨s3, hs3⟩ : ∃ s3 : Shared, s3 = { s2 with heap := s2.heap.push (freshSet X.w) } := ⟨_, rfl⟩
  have h3 : s3.heap = s2.heap.push (freshSet X.w) := by rw [hs3]
  obtain ⟨H3, hH3⟩ : ∃ H3, H3 = upd H2 D (nw D) := ⟨_, rfl⟩
  rw [← hH3] at w0
  have I3 : Inv X pins σ H3 s3 := by
    rw [hs3, hH3]
    exact I2.laid (t' := s2.toks) (fun b o e => Heap.get?_push_of_some _ e) (Nat.le_of_eq hD) (hnw _ _ D (by rw [← hD]; exact Heap.get?_push_size _ rfl))
  have f3 : ∀ b ∈ fp, FpOk X pins H3 b ∧ b < s3.heap.objs.size := fun b hb => by
    obtain ⟨o, e, _⟩ := T.obj _ _ st2 b hb
    have lt := Heap.lt_size e
    refine ⟨⟨?_, (f2 b hb).2⟩, by rw [h3, Heap.size_push]; exact Nat.lt_succ_of_lt lt⟩
    rw [hH3, upd_ne (by rw [← hD]; exact Nat.ne_of_lt lt)]
    exact (f2 b hb).1
  have st3 : tn 0 s3.heap := T.keep _ _ _ st2 fun b _ o e => by rw [h3]; exact Heap.get?_push_of_some _ e
  have I4 := block_start I3 ok hN f3
  have pg := hg s3 H3 s3.heap.objs.size (cellsFrom (s3.heap.objs.size + 1) scope.names (cloFrom X.env.cells scope.names [])) fp
  have pe := he s3 H3 s3.heap.objs.size (cellsFrom (s3.heap.objs.size + 1) scope.names (cloFrom X.env.cells scope.names [])) fp
  have pa := hr s3 H3 s3.heap.objs.size (cellsFrom (s3.heap.objs.size + 1) scope.names (cloFrom X.env.cells scope.names [])) fp
  rw [← hs3]
  show codeAny _ _ (.compStart (.SetComp elt [⟨tg, iter, [], 0⟩] scope pos) 0 (.ref it) (.ref D) (compEnvC scope (cellsFrom (s3.heap.objs.size + 1) scope.names (cloFrom X.env.cells scope.names [])) s3.heap.objs.size X.env))
    (compPost (model X.prog X.w) X.A X.xe none (EP X pins σ Q) (.ref D) s3.heap.objs.size) { s3 with heap := pushCells (s3.heap.push { cls := .type "dict", data := .dict #[] }) scope.names }
  obtain ⟨ce, hce⟩ : ∃ ce, compEnvC scope (cellsFrom (s3.heap.objs.size + 1) scope.names (cloFrom X.env.cells scope.names [])) s3.heap.objs.size X.env = ce := ⟨_, rfl⟩
  rw [hce] at I4 pg pe pa ⊢
  have cL : ce.locals = s3.heap.objs.size := by subst hce; rfl
  obtain ⟨s4, hs4⟩ : ∃ s4 : Shared, ({ s3 with heap := pushCells (s3.heap.push { cls := .type "dict", data := .dict #[] }) scope.names } : Shared) = s4 := ⟨_, rfl⟩
  rw [hs4] at I4 ⊢
  have st4 : tn 0 s4.heap := T.keep _ _ _ st3 fun b _ o e => by rw [← hs4]; exact pushCells_keeps _ _ _ _ (Heap.get?_push_of_some _ e)
  have away : ∀ {σ' : L2.St} {H' : Hp} {s' : Shared}, Inv (X.blk s3 H3 scope ce fp) [] σ' H' s' → (∀ b ∈ fp, H' b = none) → ∀ b ∈ fp, FpOk (X.blk s3 H3 scope ce fp) [] H' b := fun {σ' H' s'} J' hn b hb =>
    ⟨hn b hb, (J'.ok.exf b hb).1, J'.ok.exfs b hb, .inl hb, fun x c e => (J'.ok.exf b hb).2 x c e, fun p hp => absurd (show p ∈ ([] : List (Addr × Obj)) ++ [] from hp) (by simp)⟩
  have loop : codeAny (model X.prog X.w) X.A (.compLoop (.SetComp elt [⟨tg, iter, [], 0⟩] scope pos) 0 (.ref it) (.ref D) ce) (compPost (model X.prog X.w) X.A X.xe none (EP X pins σ Q) (.ref D) s3.heap.objs.size) s4 := by
    refine PpSet.compLoopS_any (fun n s' => ∃ i H', Inv (X.blk s3 H3 scope ce fp) [] (wipe σ (own.map (·.2))) H' s' ∧ tn i s'.heap ∧ (∀ b ∈ fp, H' b = none) ∧ W i n H') (fun n s5 hI => ?_) m0 ⟨0, H3, I4, st4, fun b hb => (f3 b hb).1.1, w0⟩
    obtain ⟨i, H5, I5, st5, n5, w5⟩ := hI
    rcases turn i n H5 w5 with ⟨stop, qq⟩ | ⟨go, Nx, hNx, step⟩
    · refine thnF (T.done (X.blk s3 H3 scope ce fp) rfl rfl rfl hc i [] s5 _ H5 (fun _ _ => False) I5 (away I5 n5) st5 stop) fun r6 s6 ⟨hr6, I6⟩ => ?_
      subst hr6
      have I7 : Inv X pins σ H5 s6 := I3.call' (ch := fp) I6.os I6.base I6.hok I6.bare fun b hb => ⟨(f3 b hb).1.2.2.2.1, (f3 b hb).1.2.1, (f3 b hb).1.2.2.2.2.1, (f3 b hb).1.2.2.2.2.2⟩
      have nC : H5 s3.heap.objs.size = none := cL ▸ (show H5 ce.locals = none from I6.free)
      obtain ⟨mm, hn, _⟩ := I6.loc
      have hn : s6.heap.Ns s3.heap.objs.size mm := cL ▸ (show s6.heap.Ns ce.locals mm from hn)
      refine ⟨mm, hn, fun h'' sb => ?_⟩
      obtain ⟨g0, g1, g2, g3, g4, g5⟩ := I3.fpOk (Nat.le_refl _) nC
      exact ⟨.ref D, H5, I7.turned (t' := s6.toks) (fun b o hb e => (sb.2 b hb).trans e) g0 g1 g3 g4 g5, rfl, qq⟩
    · refine thnF (T.item (X.blk s3 H3 scope ce fp) rfl rfl rfl hc i [] s5 _ H5 (fun _ _ => False) I5 (away I5 n5) st5 go) fun r6 s6 ⟨u, hr6, h6⟩ => ?_
      subst hr6
      refine thnF h6 fun _ s7 ⟨x, H7, I7, r7, y7, st7, n7⟩ => ?_
      refine thnF (pg.run _ s7 _ H7 x u _ (I7.pinned (away I7 n7) (T.obj _ _ st7)) r7 (step x H7 y7)) fun _ s8 ⟨σ8, H8, I8, hw8, q8⟩ => ?_
      show wpAny _ _ (pure true) _ _ s8
      refine wpAny_pure ?_
      simp only [if_true]
      refine thnF (pe.run _ s8 σ8 H8 _ I8 q8) fun z s10 ⟨yv, H10, I10, r10, qr⟩ => ?_
      refine thnF (pa _ s10 σ8 H10 (.ref D) [yv] (.ref D) [z] _ I10 rfl (.cons r10 .nil) qr) fun _ s' ⟨v9, H', I', _, nx⟩ => ?_
      obtain ⟨m', hm, w'⟩ := hNx H' nx
      have stay : ∀ b ∈ fp, ∀ o, s7.heap.get? b = some o → s'.heap.get? b = some o ∧ H' b = none := fun b hb o e => by
        have z := I'.pin (b, o) (List.mem_append_right _ (List.mem_append_right _ (mem_pinsAt hb e)))
        exact ⟨z.1, z.2.1⟩
      refine ⟨m', hm, i + 1, H', (I'.unpinned (pins := [])).weak (by rw [← hw8, wipe_length]) (fun j v e => (wipe_some (hw8 ▸ e)).1), T.keep _ _ _ st7 fun b hb o e => (stay b hb o e).1, fun b hb => ?_, w'⟩
      obtain ⟨o, e, _⟩ := T.obj _ _ st7 b hb
      exact (stay b hb o e).2
  exact PpSet.codeAny_compStart_set loop (T.self X.A 0 _ _ _ st4 loop)
/-- over a list that stands still -/
theorem sg_list {nw : Addr → HO} {r : V → List V → Hp → VK → Prop} {K : PySem.W.Frag} {a : Addr} {xs : List V} {g : TG} {te : TE} {vs : List Nat} {σ : L2.St} {H1 : Hp} {D : Addr} {Qd : Hp → Prop} (Pv : Nat → Hp → Prop) (h0 : Pv 0 (upd H1 D (nw D)))
    (hl : ∀ i H, i ≤ xs.length → Pv i H → SqL K H a xs)
    (hs : ∀ i x H, xs[i]? = some x → Pv i H → g x (wipe σ vs) H fun σ2 H2 => wipe σ2 vs = wipe σ vs ∧ te σ2 H2 fun y H4 => r (.ref D) [y] H4 fun _ H5 => Pv (i + 1) H5) (hd : ∀ H, Pv xs.length H → Qd H) :
    ∃ W : Nat → Nat → Hp → Prop, (∃ m, W 0 m (upd H1 D (nw D))) ∧ ∀ i m H, W i m H →
      ((Itl K a).stop i H ∧ Qd H) ∨ ((Itl K a).go i H ∧ ∃ Nx : Hp → Prop, (∀ H', Nx H' → ∃ m', m' < m ∧ W (i + 1) m' H') ∧ ∀ x H', (Itl K a).yld i H x H' → g x (wipe σ vs) H' fun σ2 H2 => wipe σ2 vs = wipe σ vs ∧ te σ2 H2 fun y H4 => r (.ref D) [y] H4 fun _ H5 => Nx H5) := by
  refine ⟨fun i m H => m = xs.length - i ∧ i ≤ xs.length ∧ Pv i H, ⟨xs.length, (Nat.sub_zero _).symm, Nat.zero_le _, h0⟩, fun i m H ⟨em, hi, p⟩ => ?_⟩
  subst em
  have q := hl i H hi p
  rcases Nat.lt_or_eq_of_le hi with hlt | rfl
  · refine .inr ⟨⟨xs, xs[i], q, List.getElem?_eq_getElem hlt⟩, Pv (i + 1), fun H' p' => ⟨xs.length - (i + 1), by omega, rfl, hlt, p'⟩, fun x H' ⟨e, y⟩ => ?_⟩
    subst e
    exact hs i x _ (y xs q) p
  · exact .inl ⟨⟨xs, q, Nat.le_refl _⟩, hd H p⟩
/-- set.add of a tuple of ints -/
def rTAdd (K : PySem.W.Frag) (P : Program) (w : World) : V → List V → Hp → VK → Prop := fun x xs H Q => ∃ (a t : Addr) (k : List Int) (L : List (Addr × List Int)), x = .ref a ∧ xs = [.ref t] ∧ H a = some (SetTO P w a L) ∧ SqT K H t (k.map V.int) ∧
  (∀ p ∈ L, SqT K H p.1 (p.2.map V.int)) ∧ L.length + 1 < 64 ∧ ∀ L', (k ∈ L.map (·.2) → L' = L) → (k ∉ L.map (·.2) → L'.Perm ((t, k) :: L)) → Q .non (upd H a (SetTO P w a L'))
theorem mt_tadd (hu : X.A.units + 64 < cLine) : MtR X "set.add" (rTAdd X.K X.prog X.w) := by
  intro pins s σ H x xs v us Q I rx rxs h
  obtain ⟨a, t, k, L, rfl, rfl, ha, ht, hL, hf, q⟩ := h
  cases rx
  rw [Vals.ref1 rxs]
  have R0 : SetT0 X.prog X.w s.heap a L := (I.hok a _ ha).1
  obtain ⟨es, ep, tb, R⟩ := R0.full fun p hp => I.isT (hL p hp)
  have hx := I.isT ht
  obtain ⟨o, ho, hex, hd⟩ := R.ob
  refine wpAny_call_entry F.slot_set_add ⟨o, ho, hex.1⟩ F.entry_set_add ?_ (F.args_set_add_2 _ _)
  unfold Builtin.«set.add» Builtin.Frozenset.oneOther
  simp only [List.isEmpty_nil, bind_assoc]
  unfold Builtin.Frozenset.addrOf setAdd
  refine wpAny_bind (wpAny_pure ?_)
  try dsimp only
  refine wpAny_bind (wpAny_pure ?_)
  try dsimp only
  have hu1 : X.A.in1.units < cLine := by show X.A.units + 1 < cLine; omega
  refine wpAny_bind (wpAny_holding (wpAny_bind (wpAny_pyHash_tuple (knd := intKind X.prog X.w) hu1 hx ?_)))
  refine add_at (s := { s with toks := s.toks + (k.length + 1) }) R hx hu1 hf fun b h' L' es' ep' t' sb R' c1 c2 => ?_
  have he : ∃ u, h'.get? a = some u := by
    obtain ⟨o2, ho2, _⟩ := R'.ob
    exact ⟨o2, ho2⟩
  exact wpAny_pure ⟨_, rfl, .non, _, I.write (e := a) (t' := s.toks + (k.length + 1)) (o := SetTO X.prog X.w a L') (by rw [ha]; trivial) (.inl rfl) (fun b u hb hu => (sb.2 b hb).trans hu) he (setTO_new R'.t0), rfl, q L' c1 c2⟩
theorem mt_taddB (hu : X.A.units + 64 < cLine) (s : Shared) (H : Hp) (scope : Scope) (ce : Env) (fp : List Addr) : MtR (X.blk s H scope ce fp) "set.add" (rTAdd X.K X.prog X.w) := mt_tadd (X := X.blk s H scope ce fp) hu
theorem setTO_fresh {P : Program} {w : World} (H : Hp) (h : Heap) (D : Addr) (e : h.get? D = some (freshSet w)) : ObjOk P w H h D (SetTO P w D []) := setTO_new (setTR_fresh (P := P) e).t0
/-- one of two rules -/
theorem cr_or {f : Value} {r1 r2 : List V → Hp → VK → Prop} (h1 : CallR X f r1) (h2 : CallR X f r2) : CallR X f (fun xs H Q => r1 xs H Q ∨ r2 xs H Q) := fun pins s σ H xs us Q I r h =>
  h.elim (h1 pins s σ H xs us Q I r) (h2 pins s σ H xs us Q I r)
/-- list.sort of at most one item -/
theorem sort_few {P : Program} {w : World} {A : Around} {E : Value → Shared → Prop} {s : Shared} {a : Addr} {vs : List Value} {n : Nat} {Q : Value → Shared → Prop} (ho : s.heap.get? a = some (seqObj "list" vs.toArray n)) (hl : vs.length ≤ 1)
    (h : ∀ h', (∀ b o, b ≠ a → s.heap.get? b = some o → h'.get? b = some o) → (∃ m, h'.get? a = some (seqObj "list" vs.toArray m)) → Q .none { s with heap := h' }) :
    wpAny (model P w) A (call (.builtin "list.sort") [.ref a]) Q E s := by
  refine wpAny_call_entry slot_list_sort ⟨_, ho, rfl⟩ entry_list_sort (SK.plain_sort (r := fun _ => 0) ho (by omega) (fun h2 => absurd h2 (by omega)) fun ps out h1 h2 _ => ⟨_, rfl, h _ (fun b o hb e => ?_) ?_⟩) (args_list_sort _)
  · rw [sortedHeap_old hb (Heap.lt_size e)]
    exact e
  · obtain ⟨c, hc⟩ := sortedHeap_at (vs := vs) (out := out) ho
    have e : out.toList = vs := by
      have hp : out.toList.Perm vs := by
        rw [h1]
        have z := h2.map Prod.snd
        rw [List.map_snd_zip (Nat.le_refl _)] at z
        exact z
      match vs, hl, hp with
      | [], _, hp => exact List.perm_nil.mp hp
      | [v], _, hp => exact List.perm_singleton.mp hp
    refine ⟨c, ?_⟩
    rw [hc, ← e]
/-- sorted of a list of at most one item -/
def rSortFew (K : PySem.W.Frag) : List V → Hp → VK → Prop := fun vs H Q => ∃ (a : Addr) (xs : List V), vs = [.ref a] ∧ SqL K H a xs ∧ xs.length ≤ 1 ∧ ∀ p, H p = none → Q (.ref p) (upd H p (.lst xs))
theorem cr_sortFew : CallR X (.builtin "sorted") (rSortFew X.K) := by
  intro pins s σ H vs us Q I r h
  obtain ⟨a, xs, rfl, hs, hl, q⟩ := h
  obtain ⟨its, rv, pl, hz⟩ := I.list hs
  rw [Vals.ref1 r]
  have hlen := rv.length
  refine Calls.call_function_entry kind_sorted plain_sorted entry_sorted (args_sorted1 _) ?_
  unfold Builtin.«sorted»
  refine wpAny_bind (m := checkCount "sorted" 1 1 _) (wpAny_pure ?_)
  refine wpAny_bind (collect_list pl.isList ?_ (by omega))
  refine wpAny_bind (wpAny_newList ?_ (by omega))
  obtain ⟨h1, hh1⟩ : ∃ h1, h1 = (s.heap.push (seqObj "list" #[] 0)).update s.heap.objs.size (Obj.mapSeq (· ++ its.toArray)) := ⟨_, rfl⟩
  have z1 : h1.objs.size = s.heap.objs.size + 1 := by rw [hh1, Heap.size_update, size_push']
  have k1 : ∀ b o, s.heap.get? b = some o → h1.get? b = some o := fun b o e => by
    have lt := Nat.ne_of_lt (Heap.lt_size e)
    rw [hh1, Heap.get?_update_ne _ _ _ _ lt, Heap.get?_push_ne _ _ _ lt]
    exact e
  show wpAny _ _ _ _ _ { s with heap := ((s.heap.push (seqObj "list" #[] 0)).update s.heap.objs.size (Obj.mapSeq (· ++ its.toArray))).push (seqObj "list" its.toArray 0) }
  rw [← hh1]
  have hoL : (h1.push (seqObj "list" its.toArray 0)).get? h1.objs.size = some (seqObj "list" its.toArray 0) := Heap.get?_push_size _ rfl
  refine wpAny_bind (wpAny_holding (sort_few (s := { s with heap := h1.push (seqObj "list" its.toArray 0) }) hoL (by omega) fun h' k' ⟨m, hm⟩ => ?_))
  have hp : s.heap.objs.size ≤ h1.objs.size := by omega
  refine wpAny_pure ⟨_, rfl, .ref h1.objs.size, _, I.laid (t' := s.toks) (a := h1.objs.size) (o := .lst xs) (h' := h') (fun b o e => ?_) hp ⟨hz, its, m, rv, hm⟩, rfl, q _ (I.hok.fresh hp)⟩
  exact k' b o (Nat.ne_of_lt (Nat.lt_of_lt_of_le (Heap.lt_size e) hp)) (Heap.get?_push_of_some _ (k1 b o e))
/-- sorted of a set of at most one tuple -/
def rSortOne (P : Program) (w : World) : List V → Hp → VK → Prop := fun vs H Q => ∃ (a : Addr) (L : List (Addr × List Int)), vs = [.ref a] ∧ H a = some (SetTO P w a L) ∧ L.length ≤ 1 ∧ ∀ p, H p = none → Q (.ref p) (upd H p (.lst (L.map fun q => V.ref q.1)))
theorem cr_sortOne (hc : X.calm = true) : CallR X (.builtin "sorted") (rSortOne X.prog X.w) := by
  intro pins s σ H vs us Q I r h
  obtain ⟨a, L, rfl, ha, hl, q⟩ := h
  have R0 : SetT0 X.prog X.w s.heap a L := (I.hok a _ ha).1
  obtain ⟨es, ep, t, ⟨o, ho, hex, hd⟩, hrows, htab, _, _, hled, _, hfew⟩ := R0.ex
  rw [Vals.ref1 r]
  have hsz : es.size = L.length := by
    have z := congrArg List.length hrows
    rw [Array.length_toList] at z
    rw [z]
    simp [rowsOf]
  have hfit : t.fits es.size = true := by
    have h1 := htab.sz
    rw [List.length_map] at h1
    have h2 : t.dummies = #[] := htab.dm
    simp only [SetTable.fits, SetTable.fill, h2, Bool.and_eq_true, beq_iff_eq, decide_eq_true_eq, List.size_toArray, List.length_nil]
    omega
  refine Calls.call_function_entry kind_sorted plain_sorted entry_sorted (args_sorted1 _) ?_
  unfold Builtin.«sorted»
  refine wpAny_bind (m := checkCount "sorted" 1 1 _) (wpAny_pure ?_)
  refine wpAny_bind (collect_set (A := X.A.in1) (I.ok.hd hc) ⟨o, ho, hex.1, hd⟩ hfit (by unfold scanBound; omega) htab.ris hled fun s1 vs k1 hz1 g1 o1 pm => ?_)
  have hes : es.toList.map (·.2) = L.map fun q => Value.ref q.1 := by
    rw [hrows]
    simp [rowsOf, List.map_map, Function.comp_def]
  rw [hes] at pm
  have evs : vs = L.map fun q => Value.ref q.1 := by
    match L, hl, pm with
    | [], _, pm => exact List.perm_nil.mp pm
    | [v], _, pm => exact List.perm_singleton.mp pm
  have lv : vs.length ≤ 1 := by rw [evs, List.length_map]; exact hl
  refine wpAny_bind (wpAny_newList ?_ (by rw [sizeLine_eq]; omega))
  have hoL : (s1.heap.push (seqObj "list" vs.toArray 0)).get? s1.heap.objs.size = some (seqObj "list" vs.toArray 0) := Heap.get?_push_size _ rfl
  refine wpAny_bind (wpAny_holding (sort_few (s := { s1 with heap := s1.heap.push (seqObj "list" vs.toArray 0) }) hoL lv fun h' k' ⟨m, hm⟩ => ?_))
  have kk : ∀ b o, s.heap.get? b = some o → h'.get? b = some o := fun b o e => k' b o (Nat.ne_of_lt (Heap.lt_size (k1 b o e))) (Heap.get?_push_of_some _ (k1 b o e))
  have hn := I.hok.fresh hz1
  have hsl : (L.map fun q => V.ref q.1).length ≤ sizeLine := by rw [List.length_map, sizeLine_eq]; omega
  have J : Inv X pins σ (upd H s1.heap.objs.size (.lst (L.map fun q => V.ref q.1))) { s with heap := h', gens := s1.gens, drawn := s1.drawn, toks := s1.toks } :=
    I.call (ch := []) (Un.laid kk hz1 hn) (I.hok.laid kk hz1 ⟨hsl, vs, m, by rw [evs]; exact vals_of_refs L, hm⟩) (by rw [g1]; exact I.bare) (fun _ z => nomatch z)
  refine wpAny_pure ⟨_, rfl, .ref s1.heap.objs.size, _, ?_, rfl, q _ hn⟩
  have e : ({ s1 with heap := h' } : Shared) = { s with heap := h', gens := s1.gens, drawn := s1.drawn, toks := s1.toks } := by
    cases s1
    cases s
    cases o1
    rfl
  exact e ▸ J
/-- sorted of a list of tuples of ints of one length -/
theorem cr_sortTA : CallR X (.builtin "sorted") (fun xs H Q => ∃ (d : Nat) (B : Int), 1 ≤ d ∧ rSortU X.K d B xs H Q) := fun pins s σ H xs us Q I r ⟨_, B, hd, h⟩ => cr_sortT (B := B) hd pins s σ H xs us Q I r h
end
theorem hu64 {k : Nat} {A : Around} (hr : Room k A) : A.units + 64 < cLine := by have := hr.un; omega
theorem hu65 {k : Nat} {A : Around} (hr : Room k A) : A.units + 65 < cLine := by have := hr.un; omega

/-- at these addresses: tuples of these ints -/
def TupsAt (H : Hp) (ts : List Addr) (nss : List (List Int)) : Prop := ts.length = nss.length ∧ ∀ (j : Nat) (t : Addr) (ns : List Int), ts[j]? = some t → nss[j]? = some ns → H t = some (.tup (ns.map V.int))
theorem TupsAt.nil (H : Hp) : TupsAt H [] [] := ⟨rfl, fun j t ns h => by simp at h⟩
theorem TupsAt.keep {H H' : Hp} {ts : List Addr} {nss : List (List Int)} (x : TupsAt H ts nss) (k : Same H H') : TupsAt H' ts nss := ⟨x.1, fun j t ns a b => k _ _ (x.2 j t ns a b)⟩
theorem TupsAt.app {H : Hp} {ts ts2 : List Addr} {nss nss2 : List (List Int)} (x : TupsAt H ts nss) (y : TupsAt H ts2 nss2) : TupsAt H (ts ++ ts2) (nss ++ nss2) := by
  refine ⟨by rw [List.length_append, List.length_append, x.1, y.1], fun j t ns a b => ?_⟩
  by_cases h : j < ts.length
  · rw [List.getElem?_append_left h] at a
    rw [List.getElem?_append_left (by rw [← x.1]; exact h)] at b
    exact x.2 j t ns a b
  · rw [List.getElem?_append_right (by omega)] at a
    rw [List.getElem?_append_right (by rw [← x.1]; omega), ← x.1] at b
    exact y.2 _ t ns a b
theorem TupsAt.one {H : Hp} {t : Addr} {ns : List Int} (h : H t = some (.tup (ns.map V.int))) : TupsAt H [t] [ns] := ⟨rfl, fun j t' ns' a b => by
  cases j with
  | zero => simp at a b; subst a; subst b; exact h
  | succ j => simp at a⟩
theorem TupsAt.of_pairs {H : Hp} {L : List (Addr × List Int)} (h : ∀ p ∈ L, H p.1 = some (.tup (p.2.map V.int))) : TupsAt H (L.map (·.1)) (L.map (·.2)) := by
  refine ⟨by rw [List.length_map, List.length_map], fun j t ns a b => ?_⟩
  rw [List.getElem?_map] at a b
  cases e : L[j]? with
  | none => rw [e] at a; cases a
  | some p =>
    rw [e] at a b
    cases a
    cases b
    exact h p (List.mem_of_getElem? e)
def spPre (K : PySem.W.Frag) (C : Addr) : Sp := fun vs H Q _ => ∃ (p l : Addr) (f d w b s : Int) (idx : List Int), vs = [.ref p, .ref l] ∧ ShAt C H p f d w b s ∧ ShOk f d w b s ∧ SqL K H l (idx.map V.int) ∧ idx.length ≤ 64 ∧ (∀ i ∈ idx, 0 ≤ i ∧ i < f ^ d.toNat) ∧
  ∀ (r : Addr) (H' : Hp) (ts : List Addr), H r = none → Same H H' → H' r = some (.lst (ts.map V.ref)) → TupsAt H' ts (innerW f d.toNat idx d.toNat) → Q (.ref r) H'
theorem sl_tupAK {X : Cx} {K : PySem.W.Frag} (e : X.K = K) : SlR X (rSlA K) := e ▸ sl_tupA
theorem cut_to {xs : List V} {m : Nat} (h : m ≤ xs.length) : cutV xs none (some (m : Int)) = xs.take m := by
  unfold cutV
  rw [HT.sIx_none, HT.sIx_nat, List.drop_zero, Nat.sub_zero, Nat.min_eq_left h]
theorem cut_part {xs : List V} {m : Nat} (h : m < xs.length) : ¬ (HT.sIx xs.length 0 none = 0 ∧ HT.sIx xs.length xs.length (some (m : Int)) = xs.length) := by
  rw [HT.sIx_nat, Nat.min_eq_left (Nat.le_of_lt h)]
  omega
theorem SqT.keep {K : PySem.W.Frag} {H H' : Hp} {a : Addr} {xs : List V} (e : Same H H') (h : SqT K H a xs) : SqT K H' a xs := by
  rcases h with (h | ⟨o, h⟩) | h
  · exact .inl (.inl (e _ _ h))
  · exact .inl (.inr ⟨o, e _ _ h⟩)
  · exact .inr h
theorem Same.over {H H' : Hp} {D : Addr} {o : HO} (h : Same H H') (n : H D = none) : Same H (upd H' D o) := fun b u e => by
  rw [upd_ne (ne_of_none e n)]
  exact h b u e
theorem TupsAt.over {H : Hp} {D : Addr} {o : HO} {xs : List V} {ts : List Addr} {nss : List (List Int)} (x : TupsAt H ts nss) (h : H D = some (.lst xs)) : TupsAt (upd H D o) ts nss := ⟨x.1, fun j t ns a b => by
  have e := x.2 j t ns a b
  rw [upd_ne (ne_of e h (by intro z; cases z))]
  exact e⟩
theorem take_snoc {α : Type} {l : List α} {i : Nat} {x : α} (h : l[i]? = some x) : l.take (i + 1) = l.take i ++ [x] := by rw [List.take_add_one, h]; rfl
theorem one_of_nil {L : List (Addr × List Int)} (hn : (L.map (·.2)).Nodup) (h : ∀ p ∈ L, p.2 = []) : L.length ≤ 1 := by
  match L, hn, h with
  | [], _, _ => exact Nat.zero_le _
  | [_], _, _ => exact Nat.le_refl _
  | x :: y :: r, hn, h =>
    exfalso
    have e1 := h x List.mem_cons_self
    have e2 := h y (List.mem_cons_of_mem _ List.mem_cons_self)
    rw [List.map_cons, List.map_cons] at hn
    exact (List.nodup_cons.mp hn).1 (by rw [e1, e2]; exact List.mem_cons_self)
theorem pow_half {f : Int} {d m : Nat} (h1 : 2 ≤ f) (h2 : f ^ d ≤ 64) (hm : m < d) : f ^ m ≤ 32 := by
  obtain ⟨e, rfl⟩ : ∃ e, d = m + 1 + e := ⟨d - m - 1, by omega⟩
  have p0 : 0 < f ^ m := Int.pow_pos (by omega)
  have p1 : 1 ≤ f ^ e := Int.pow_pos (by omega)
  have a : f ^ m * 2 ≤ f ^ m * f := Int.mul_le_mul_of_nonneg_left h1 (by omega)
  have b : f ^ (m + 1) * 1 ≤ f ^ (m + 1) * f ^ e := Int.mul_le_mul_of_nonneg_left p1 (Int.le_of_lt (Int.pow_pos (by omega)))
  rw [Int.pow_add] at h2
  have e1 : f ^ (m + 1) = f ^ m * f := Int.pow_succ f m
  rw [← e1] at a
  omega
theorem nodup_snoc {α : Type} : ∀ {l : List α} {k : α}, l.Nodup → ¬ k ∈ l → (l ++ [k]).Nodup
  | [], k, _, _ => by simp
  | a :: r, k, h, hk => by
    obtain ⟨h1, h2⟩ := List.nodup_cons.mp h
    refine List.nodup_cons.mpr ⟨fun m => ?_, nodup_snoc h2 fun m => hk (List.mem_cons_of_mem _ m)⟩
    rcases List.mem_append.mp m with q | q
    · exact h1 q
    · exact hk (by rw [List.mem_singleton.mp q]; exact List.mem_cons_self)
theorem perm_of_map {α β : Type} {f : α → β} {ys xs : List β} (h : ys.Perm xs) : ∀ L : List α, xs = L.map f → ∃ L' : List α, L'.Perm L ∧ ys = L'.map f := by
  induction h with
  | nil =>
    intro L e
    cases L with
    | nil => exact ⟨[], .nil, rfl⟩
    | cons a L => cases e
  | cons x h ih =>
    intro L e
    cases L with
    | nil => cases e
    | cons a L =>
      rw [List.map_cons] at e
      injection e with e1 e2
      obtain ⟨L', p, e'⟩ := ih L e2
      exact ⟨a :: L', p.cons a, by rw [List.map_cons, e1, e']⟩
  | swap x y l =>
    intro L e
    match L with
    | [] => cases e
    | [a] => cases e
    | a :: b :: L =>
      rw [List.map_cons, List.map_cons] at e
      injection e with e1 e2
      injection e2 with e2 e3
      exact ⟨b :: a :: L, .swap a b L, by rw [List.map_cons, List.map_cons, e1, e2, e3]⟩
  | trans h1 h2 ih1 ih2 =>
    intro L e
    obtain ⟨L2, p2, e2⟩ := ih2 L e
    obtain ⟨L1, p1, e1⟩ := ih1 L2 e2
    exact ⟨L1, p1.trans p2, e1⟩

/-! ### tuples of ints as data -/
def dT (ns : List Int) : PyData := .tuple (ns.map PyData.int)
theorem ints_lay : ∀ ns : List Int, PyData.canLayAll0 (ns.map PyData.int) = true
  | [] => rfl
  | n :: r => by simp [PyData.canLayAll0, PyData.canLay0, ints_lay r]
theorem ints_depth : ∀ ns : List Int, PyData.depthAll (ns.map PyData.int) ≤ 1
  | [] => by simp [PyData.depthAll]
  | n :: r => by
    have h := ints_depth r
    simp [PyData.depthAll, PyData.depth] at h ⊢
    try omega
theorem dT_lay (ns : List Int) : (dT ns).canLay0 = true := by simp [dT, PyData.canLay0, ints_lay]
theorem dT_depth (ns : List Int) : (dT ns).depth ≤ 2 := by
  have h := ints_depth ns
  simp only [dT, PyData.depth]
  omega
theorem dT_shaped (ns : List Int) : SeqAt.shaped (dT ns) = true := by
  have h := dT_depth ns
  simp only [SeqAt.shaped, dT_lay, Bool.true_and, decide_eq_true_eq]
  omega
theorem dTs_lay : ∀ nss : List (List Int), PyData.canLayAll0 (nss.map dT) = true
  | [] => rfl
  | n :: r => by simp [PyData.canLayAll0, dT_lay, dTs_lay r]
theorem dTs_depth : ∀ nss : List (List Int), PyData.depthAll (nss.map dT) ≤ 2
  | [] => by simp [PyData.depthAll]
  | n :: r => by
    have h := dTs_depth r
    have g := dT_depth n
    simp only [List.map_cons, PyData.depthAll]
    omega
theorem dTs_shaped (nss : List (List Int)) : SeqAt.shaped (.list (nss.map dT)) = true := by
  have h := dTs_depth nss
  simp only [SeqAt.shaped, PyData.canLay0, PyData.depth, dTs_lay, Bool.true_and]
  exact decide_eq_true (by omega)
theorem ints_eqv : ∀ a b : List Int, PyData.eqvAll (a.map PyData.int) (b.map PyData.int) = decide (a = b)
  | [], [] => by simp [PyData.eqvAll]
  | [], _ :: _ => by simp [PyData.eqvAll]
  | _ :: _, [] => by simp [PyData.eqvAll]
  | x :: a, y :: b => by
    have e : (x == y) = decide (x = y) := by by_cases h : x = y <;> simp [h]
    simp [PyData.eqvAll, PyData.eqv, ints_eqv a b, e]
theorem dT_eqv (a b : List Int) : PyData.eqv (dT a) (dT b) = decide (a = b) := by simp only [dT, PyData.eqv, ints_eqv]
theorem dTs_eqv : ∀ a b : List (List Int), PyData.eqvAll (a.map dT) (b.map dT) = decide (a = b)
  | [], [] => by simp [PyData.eqvAll]
  | [], _ :: _ => by simp [PyData.eqvAll]
  | _ :: _, [] => by simp [PyData.eqvAll]
  | x :: a, y :: b => by simp [PyData.eqvAll, dT_eqv, dTs_eqv a b]
theorem ints_dp {K : PySem.W.Frag} {H : Hp} : ∀ ns : List Int, DpAll K H (ns.map V.int) (ns.map PyData.int)
  | [] => .nil
  | n :: r => .cons (.int n) (ints_dp r)
theorem dT_dp {K : PySem.W.Frag} {H : Hp} {t : Addr} {ns : List Int} (h : SqT K H t (ns.map V.int)) : Dp K H (.ref t) (dT ns) := .tup h (ints_dp ns)
theorem dTs_dp {K : PySem.W.Frag} {H : Hp} : ∀ {ts : List Addr} {nss : List (List Int)}, TupsAt H ts nss → DpAll K H (ts.map V.ref) (nss.map dT)
  | [], [], _ => .nil
  | [], _ :: _, h => absurd h.1 (by simp)
  | _ :: _, [], h => absurd h.1 (by simp)
  | t :: ts, n :: nss, h => .cons (dT_dp (SqT.of (h.2 0 t n rfl rfl))) (dTs_dp ⟨by have := h.1; simpa using this, fun j a b x y => h.2 (j + 1) a b x y⟩)
theorem dTs_dpL {K : PySem.W.Frag} {H : Hp} {l : Addr} {ts : List Addr} {nss : List (List Int)} (hl : SqL K H l (ts.map V.ref)) (h : TupsAt H ts nss) : Dp K H (.ref l) (.list (nss.map dT)) := .lst hl (dTs_dp h)
theorem any_dT (nss : List (List Int)) (a : List Int) : ((nss.map dT).any fun z => PyData.eqv z (dT a)) = decide (a ∈ nss) := by
  induction nss with
  | nil => simp
  | cons n r ih =>
    rw [List.map_cons, List.any_cons, ih, dT_eqv]
    by_cases h : n = a
    · simp [h]
    · have h' : ¬ a = n := fun e => h e.symm
      simp [h, h']
theorem iteNE {b : Bool} {A B : Prop} (hb : b = true) (h : B) : if (!b) = true then A else B := by
  rw [hb]
  exact iteF h

theorem kbd_Shape {K : PySem.W.Frag} {f : Addr} {fd : FuncData} (F : FunD K "__init__" "Shape.__init__" (defArgs s_Shape___init__) (defBody s_Shape___init__) (defScope s_Shape___init__) [] [("snapshots", V.int 0)] f fd) :
    KBn K fd p_Shape___init__ 1 ["fanout", "depth", "words", "blocks", "snapshots"] (fun us ws => us ++ ws) (fun vs zs => vs ++ zs) := by
  obtain ⟨mv, h⟩ := F.kbinds0 (ps := p_Shape___init__) 1 ["fanout", "depth", "words", "blocks", "snapshots"] [] (fun us _ ws => us ++ ws) (by simp) (by simp) (fun r1 _ r3 => r1.append r3) (fun D doc pm an cdv ct us mv ws h1 _ h3 =>
    match us, ws, h1, h3 with
    | [_], [_, _, _, _, _], _, _ => rfl)
  exact h

section
variable {P : Program} {w : World} {K : PySem.W.Frag} {mg : Str → Option Value} {base : Heap}
theorem ok_state (T : Txt K mg) : FnOk P w K mg base CX0 1 T.f__law_state T.d__law_state p__law_state (spState K) := by
  refine T.F__law_state.ok sc__law_state (fun vs H Q E h => ?_) (fun cdv A outer s H vs Q E hr h => ?_)
  · obtain ⟨l, ns, rfl, _⟩ := h
    rfl
  · obtain ⟨l, ns, rfl, hS, hlen, k⟩ := h
    refine ⟨_, (pss_cons (ps_set (i := 1) sc__law_state.nd rfl (Or.inl rfl) pe_int)
      (pss_cons (ps_for PassesOwn.never rfl (pi_list (pv 0)) (pg_name (i := 2) sc__law_state.nd rfl (Or.inl rfl)) (pss_one (ps_set (i := 1) sc__law_state.nd rfl (Or.inl rfl) (pe_op op_modN (pe_callTy call_int1 (by rfl) T.z_int (by decide +kernel) (pa_cons (pe_op op_add (pe_op op_mul (pv 1) pe_int) (pv 2)) pa_nil)) pe_int))))
      (pss_one (ps_ret (pe_lst (pa_cons (pe_lc (own := [("cell", 2)]) (g := gName 2) (tt := tYes) rfl sc__law_state.nd (pi_list (pv 0)) (blkOk_by (N := n__law_state) (sc := defScope s__law_state) (by decide +kernel)) (fun _ _ _ _ _ => (pg_name (i := 2) sc__law_state.nd rfl (Or.inl rfl))) (fun _ _ _ _ _ => pts_nil) (fun _ _ _ _ _ => (pe_callB call_abs (by rfl) T.z_abs (by decide +kernel) (pa_cons (pv 2) pa_nil)))) (pa_cons (pe_op op_add (pv 1) pe_int) pa_nil))))))), ?_⟩
    refine ⟨_, rfl, l, rfl, ⟨_, hS⟩, for_list (K := K) (a := l) (xs := ns.map V.int) (fun i σ H' => ∃ (z : Int) (v : Option V), σ = [some (.ref l), some (.int z), v] ∧ H' = H ∧ 0 ≤ z ∧ z < 1000003)
      ⟨7, none, rfl, rfl, by decide, by decide⟩ (fun i σ H' _ ⟨_, _, _, e, _⟩ => e ▸ hS) ?_ ?_⟩
    · rintro i y σ H' hi ⟨z, v, rfl, rfl, h0, h1⟩
      obtain ⟨u, _, rfl⟩ := int_at hi
      refine ⟨_, rfl, _, _, rfl, rfl, .inl ⟨by omega, by omega⟩, _, rfl, _, _, rfl, rfl, .inl ⟨_, rfl, _, _, rfl, rfl, (by show (1000003 : Int) ≠ 0; decide), ?_⟩⟩
      exact ⟨_, _, rfl, rfl, by rw [Int.fmod_eq_emod_of_nonneg _ (by decide)]; omega, by rw [Int.fmod_eq_emod_of_nonneg _ (by decide)]; omega⟩
    · rintro σ H' ⟨z, v, rfl, rfl, h0, h1⟩
      refine ⟨_, rfl, l, rfl, ⟨_, hS⟩, fun D hD => lc_list (K := K) (xs := ns.map V.int) (fun i H2 => ∃ ms : List Int, H2 = upd H' D (.lst (ms.map V.int)) ∧ ms.length = i ∧ ∀ m ∈ ms, 0 ≤ m) ⟨[], rfl, rfl, by simp⟩ ?_ ?_ ?_⟩
      · rintro i H2 _ ⟨ms, rfl, _, _⟩
        exact Same.seq (fun b o e => by rw [upd_ne (ne_of_none e hD)]; exact e) hS
      · rintro i y H2 hi ⟨ms, rfl, hl, hp⟩
        obtain ⟨u, hu, rfl⟩ := int_at hi
        have hi2 : i < ns.length := (List.getElem?_eq_some_iff.mp hu).1
        refine ⟨rfl, _, rfl, _, rfl, _, upd_same, small1000 (by rw [List.length_map]; omega), ms ++ [if u < 0 then -u else u], ?_, by simp [hl], fun m hm => ?_⟩
        · rw [upd_upd, List.map_append]; rfl
        · rcases List.mem_append.mp hm with q | q
          · exact hp m q
          · rw [List.mem_singleton.mp q]; split <;> omega
      · rintro H2 ⟨ms, rfl, hl, hp⟩
        rw [List.length_map] at hl
        refine ⟨_, rfl, _, _, rfl, rfl, (by show 2 ≤ sizeLine; decide), fun a ha => ?_⟩
        have hD2 : D ≠ a := fun e => by rw [e, upd_same] at ha; cases ha
        refine k a D _ ?_ hD ⟨ms, _, hD2.symm, upd_same, by rw [upd_ne hD2, upd_same], by omega, hp, by omega, by omega⟩ fun b o e => ?_
        · rw [upd_ne hD2.symm] at ha
          exact ha
        · rw [upd_ne (fun q => ?_), upd_ne (ne_of_none e hD)]
          · exact e
          · rw [q] at e
            rw [upd_ne hD2.symm, e] at ha
            cases ha
theorem ok_draw (T : Txt K mg) : FnOk P w K mg base CX0 1 T.f__law_draw T.d__law_draw p__law_draw spDraw := by
  refine T.F__law_draw.ok sc__law_draw (fun vs H Q E h => ?_) (fun cdv A outer s H vs Q E hr h => ?_)
  · obtain ⟨a, c, m, rfl, _⟩ := h
    rfl
  · obtain ⟨a, c, m, rfl, hS, h1, h2, k⟩ := h
    have S0 := hS
    obtain ⟨ns, z, hac, ha, hc, hl, hp, z0, z1⟩ := hS
    refine ⟨_, (pss_cons (ps_set (i := 2) sc__law_draw.nd rfl (Or.inl rfl) (pe_ix ix_list (pv 0) pe_int (fun _ _ => rfl)))
      (pss_cons (ps_while PassesOwn.never (PW.pt (pw_and (pt_cmpR op_gt (pe_callB call_len_seq (by rfl) T.z_len PySem.boot_len (pa_cons (pv 2) pa_nil)) pe_int (nomark _)) (pw_and1 (pt_cmpR op_eq (pe_ix ix_list (pv 2) pe_int (fun _ _ => rfl)) pe_int (nomark _))))) (pss_one (ps_expr (pe_bm PySem.F.plainAttrs_list PySem.F.slot_list_pop PySem.F.type_list_pop mt_popAt (pv 2) (pa_cons pe_int pa_nil)))))
      (pss_cons (ps_if (pt_cmpR op_gt (pe_callB call_len_seq (by rfl) T.z_len PySem.boot_len (pa_cons (pv 2) pa_nil)) pe_int (nomark _)) (pss_cons (ps_set (i := 3) sc__law_draw.nd rfl (Or.inl rfl) (pe_ix ix_list (pv 2) pe_int (fun _ _ => rfl)))
      (pss_cons (ps_asg (pe_op op_fdivN (pv 3) (pv 1)) (pg_sub (pv 2) pe_int set_list))
      (pss_one (ps_ret (pe_op op_modN (pe_callTy call_int1 (by rfl) T.z_int (by decide +kernel) (pa_cons (pv 3) pa_nil)) (pv 1)))))) pss_nil)
      (pss_cons (ps_set (i := 4) sc__law_draw.nd rfl (Or.inl rfl) (pe_op op_modN (pe_callTy call_int1 (by rfl) T.z_int (by decide +kernel) (pa_cons (pe_op op_add (pe_op op_mul (pe_ix ix_list (pv 0) pe_int (fun _ _ => rfl)) pe_int) pe_int) pa_nil)) pe_int))
      (pss_cons (ps_asg (pv 4) (pg_sub (pv 0) pe_int set_list))
      (pss_one (ps_ret (pe_op op_modN (pe_callTy call_int1 (by rfl) T.z_int (by decide +kernel) (pa_cons (pe_op op_fdivN (pv 4) pe_int) pa_nil)) (pv 1))))))))), ?_⟩
    refine ⟨_, rfl, a, _, _, _, rfl, rfl, SqL.of ha, rfl, ?_⟩
    have hac' : c ≠ a := fun e => hac e.symm
    have hA : ∀ o, (upd H c o) a = some (.lst [.ref c, .int z]) := fun o => by rw [upd_ne hac]; exact ha
    have fin : ∀ (xs : List Int), xs.length ≤ 63 → (∀ n ∈ xs, 0 ≤ n) → StA a c (upd H c (.lst (xs.map V.int))) := fun xs q1 q2 => ⟨xs, z, hac, hA _, upd_same, q1, q2, z0, z1⟩
    have hm : m ≠ 0 := by omega
    have hmm : m.natAbs < 1073741824 := by omega
    refine ⟨fun n σ H' => ∃ (ns' : List Int), n = ns'.length ∧ σ = [some (.ref a), some (.int m), some (.ref c), none, none] ∧ H' = upd H c (.lst (ns'.map V.int)) ∧ ns'.length ≤ 63 ∧ ∀ n ∈ ns', 0 ≤ n,
      ⟨_, ns, rfl, rfl, (upd_eq hc).symm, hl, hp⟩, ?_⟩
    rintro n0 σ H' ⟨ns', rfl, rfl, rfl, hl', hp'⟩
    refine ⟨_, rfl, c, _, rfl, .inl (SqL.of upd_same), _, _, rfl, rfl, _, rfl, ?_⟩
    cases ns' with
    | nil =>
      refine iteF ?_
      refine iteF ?_
      refine ⟨_, rfl, c, _, rfl, .inl (SqL.of upd_same), _, _, rfl, rfl, _, rfl, ?_⟩
      refine iteF ?_
      refine ⟨_, rfl, a, _, _, _, rfl, rfl, SqL.of (hA _), rfl, _, _, rfl, rfl, .inl ⟨by omega, by omega⟩, _, _, rfl, rfl, .inl ⟨_, rfl, _, _, rfl, rfl, (by show (2147483647 : Int) ≠ 0; decide), ?_⟩⟩
      have q0 : 0 ≤ Int.fmod (z * 48271 + 12345) 2147483647 := by rw [Int.fmod_eq_emod_of_nonneg _ (by decide)]; omega
      have q1 : Int.fmod (z * 48271 + 12345) 2147483647 < 2147483647 := by rw [Int.fmod_eq_emod_of_nonneg _ (by decide)]; omega
      refine ⟨_, rfl, _, rfl, a, _, _, 1, rfl, rfl, hA _, rfl, ?_⟩
      refine ⟨_, rfl, _, _, rfl, rfl, ⟨by decide, by decide⟩, .inl ⟨_, rfl, _, rfl, _, _, rfl, rfl, hm, ?_⟩⟩
      refine k _ _ (by rw [Int.fmod_eq_emod_of_nonneg _ (by omega)]; exact Int.emod_nonneg _ hm) (by rw [Int.fmod_eq_emod_of_nonneg _ (by omega)]; exact Int.emod_lt_of_pos _ (by omega))
        ⟨[], Int.fmod (z * 48271 + 12345) 2147483647, hac, upd_same, by rw [upd_ne hac', upd_same], by decide, by simp, q0, q1⟩ (Kp.refl H).upd2.upd1
    | cons n r =>
      have n0 : 0 ≤ n := hp' n List.mem_cons_self
      have len0 : (0 : Int) < (((n :: r).map V.int).length : Nat) := by simp only [List.length_map, List.length_cons]; omega
      refine iteDT len0 ?_
      refine ⟨_, rfl, c, _, _, _, rfl, rfl, SqL.of upd_same, atI_nat (j := 0) rfl, rfl, _, rfl, ?_⟩
      refine ite2 (fun e => ?_) (fun e => ?_)
      · refine ⟨_, fun _ _ h => h, ?_⟩
        refine ⟨_, rfl, .inl ⟨rfl, _, SqL.of upd_same⟩, c, _, 0, 0, _, rfl, rfl, upd_same, by decide, by decide, seqIx_nat (j := 0) (by simp), rfl, ?_⟩
        refine ⟨r.length, Nat.lt_succ_self _, r, rfl, rfl, by rw [upd_upd]; rfl, by simp only [List.length_cons] at hl'; omega, fun x hx => hp' x (List.mem_cons_of_mem _ hx)⟩
      · refine ⟨_, rfl, c, _, rfl, .inl (SqL.of upd_same), _, _, rfl, rfl, _, rfl, ?_⟩
        refine iteDT len0 ?_
        refine ⟨_, rfl, c, _, _, _, rfl, rfl, SqL.of upd_same, atI_nat (j := 0) rfl, ?_⟩
        refine ⟨_, rfl, _, rfl, _, _, rfl, rfl, ⟨hm, hmm⟩, _, rfl, c, _, _, 0, rfl, rfl, upd_same, ixN_nat (j := 0) (by simp), ?_⟩
        refine ⟨_, rfl, .inl ⟨_, rfl, _, rfl, _, _, rfl, rfl, hm, ?_⟩⟩
        refine k _ _ (by rw [Int.fmod_eq_emod_of_nonneg _ (by omega)]; exact Int.emod_nonneg _ hm) (by rw [Int.fmod_eq_emod_of_nonneg _ (by omega)]; exact Int.emod_lt_of_pos _ (by omega))
          ?_ (Kp.refl H).upd2.upd2
        rw [upd_upd]
        refine fin (n.fdiv m :: r) hl' fun x hx => ?_
        rcases List.mem_cons.mp hx with rfl | hx
        · rw [Int.fdiv_eq_ediv_of_nonneg _ (by omega)]
          exact Int.ediv_nonneg n0 (by omega)
        · exact hp' x (List.mem_cons_of_mem _ hx)

theorem ok_LB (T : Txt K mg) : FnOk P w K mg base CX0 1 T.f_leaves_below T.d_leaves_below p_leaves_below spLB := by
  refine T.F_leaves_below.ok sc_leaves_below (fun vs H Q E h => ?_) (fun cdv A outer s H vs Q E hr h => ?_)
  · obtain ⟨f, d, rfl, _⟩ := h
    rfl
  · obtain ⟨f, d, rfl, f2, f4, d0, d6, k⟩ := h
    refine ⟨_, (pss_cons (ps_set (i := 2) sc_leaves_below.nd rfl (Or.inl rfl) pe_int)
      (pss_cons (ps_for PassesOwn.never rfl (pi_range1 rfl T.z_range (pa_cons (pv 1) pa_nil)) (pg_name (i := 3) sc_leaves_below.nd rfl (Or.inl rfl)) (pss_one (ps_set (i := 2) sc_leaves_below.nd rfl (Or.inl rfl) (pe_op op_mul (pv 2) (pv 0)))))
      (pss_one (ps_ret (pv 2))))), ?_⟩
    refine ⟨_, rfl, _, rfl, by omega, by omega, for_range (n := d.toNat) (fun i σ H' => ∃ (n : Int) (v : Option V), σ = [some (.int f), some (.int d), some (.int n), v] ∧ H' = H ∧ n = f ^ i) ⟨1, none, rfl, rfl, (Int.pow_zero f).symm⟩ ?_ ?_⟩
    · rintro i σ H' hi ⟨n, v, rfl, rfl, e⟩
      exact ⟨_, rfl, _, rfl, _, _, rfl, rfl, .inr ⟨by omega, by omega⟩, _, _, rfl, rfl, by rw [e]; exact (Int.pow_succ f i).symm⟩
    · rintro σ H' ⟨n, v, rfl, rfl, e⟩
      exact ⟨_, rfl, e ▸ k⟩
theorem ok_Dp (T : Txt K mg) : FnOk P w K mg base CX0 2 T.f_is_depth T.d_is_depth p_is_depth spDp := by
  have G_leaves_below : FnOk P w K mg base CX0 1 T.f_leaves_below T.d_leaves_below p_leaves_below spLB := ok_LB T
  refine T.F_is_depth.ok sc_is_depth (fun vs H Q E h => ?_) (fun cdv A outer s H vs Q E hr h => ?_)
  · obtain ⟨f, d, rfl, _⟩ := h
    rfl
  · obtain ⟨f, d, rfl, f2, f4, k⟩ := h
    refine ⟨_, (pss_one (ps_ret (pe_and (pe_chain op_le op_le pe_int (pv 1) (pe_glob (v := V.int 6) rfl T.mg_MOST_DEPTH ⟨_, rfl⟩)) (pe_one (pe_cmpR op_le (pe_call G_leaves_below (hr.mono (by decide)) rfl T.mg_leaves_below T.F_leaves_below.kp T.b_leaves_below .nil pass0 (pa_cons (pv 0) (pa_cons (pv 1) pa_nil))) (pe_glob (v := V.int 64) rfl T.mg_MOST_LEAVES ⟨_, rfl⟩) (nomark _)))))), ?_⟩
    -- 1 <= depth <= MOST_DEPTH
    refine ⟨_, rfl, _, _, rfl, rfl, _, rfl, ?_⟩
    refine ite2 (fun a => ?_) (fun a => ?_)
    · have a := of_decide_eq_true a
      refine ⟨_, _, rfl, rfl, _, rfl, ?_⟩
      refine ite2 (fun b => ?_) (fun b => ?_)
      · have b := of_decide_eq_true b
        refine ⟨_, rfl, _, rfl, _, _, rfl, f2, f4, by omega, b, ?_⟩
        refine ⟨_, _, rfl, rfl, ?_⟩
        exact k _ ⟨fun z => ⟨a, b, of_decide_eq_true z⟩, fun z => decide_eq_true z.2.2⟩
      · exact k _ ⟨fun z => (Bool.false_ne_true z).elim, fun z => (b (decide_eq_true z.2.1)).elim⟩
    · refine ⟨_, rfl, ?_⟩
      refine iteF ?_
      exact k _ ⟨fun z => (Bool.false_ne_true z).elim, fun z => (a (decide_eq_true z.1)).elim⟩
theorem ok_oor (T : Txt K mg) : FnOk P w K mg base CX0 3 T.f_out_of_range T.d_out_of_range p_out_of_range (spOor T.C_Shape) := by
  have G_is_depth : FnOk P w K mg base CX0 2 T.f_is_depth T.d_is_depth p_is_depth spDp := ok_Dp T
  refine T.F_out_of_range.ok sc_out_of_range (fun vs H Q E h => ?_) (fun cdv A outer s H vs Q E hr h => ?_)
  · obtain ⟨p, f, d, w, b, s, rfl, _⟩ := h
    rfl
  · obtain ⟨p, f, d, w, b, s, rfl, ⟨dx, hp⟩, k⟩ := h
    refine ⟨_, (pss_cons (ps_if (pt_not (pt_chain op_le op_le pe_int (pe_fld (pv 0) rfl) pe_int)) (pss_one (ps_ret pe_str)) pss_nil)
      (pss_cons (ps_if (pt_not (pt_truth (pe_call G_is_depth (hr.mono (by decide)) rfl T.mg_is_depth T.F_is_depth.kp T.b_is_depth .nil pass0 (pa_cons (pe_fld (pv 0) rfl) (pa_cons (pe_fld (pv 0) rfl) pa_nil))) (by intro _; rfl))) (pss_one (ps_ret pe_str)) pss_nil)
      (pss_cons (ps_if (pt_not (pt_chain op_le op_le pe_int (pe_fld (pv 0) rfl) pe_int)) (pss_one (ps_ret pe_str)) pss_nil)
      (pss_cons (ps_if (pt_not (pt_chain op_le op_le (pe_op op_add (pe_fld (pv 0) rfl) pe_int) (pe_fld (pv 0) rfl) (pe_glob (v := V.int 1000) rfl T.mg_MOST_BLOCKS ⟨_, rfl⟩))) (pss_one (ps_ret pe_str)) pss_nil)
      (pss_cons (ps_if (pt_not (pt_chain op_le op_le pe_int (pe_fld (pv 0) rfl) pe_int)) (pss_one (ps_ret pe_str)) pss_nil)
      (pss_one (ps_ret pe_non))))))), ?_⟩
    refine ⟨_, rfl, p, T.C_Shape, dx, _, _, rfl, hp, T.cl_Shape, T.na_Shape_fanout, rfl, _, _, rfl, rfl, ?_⟩
    have fin : ∀ {x : Option Str} {v : V}, oor f d w b s = x → v = optS x → Q v H := fun {x v} e1 e2 => by
      rw [e2, ← e1]; exact k
    have Bad1 : ¬ (2 ≤ f ∧ f ≤ 4) → oor f d w b s = some ("fanout" : Str) := fun z => by unfold oor; rw [if_pos z]
    refine ⟨_, rfl, ite2 (fun a => ?_) (fun a => ?_)⟩
    case' refine_2 => exact ⟨_, rfl, iteT (fin (Bad1 fun z => a (decide_eq_true z.1)) rfl)⟩
    have a := of_decide_eq_true a
    refine ⟨_, _, rfl, rfl, _, rfl, ite2 (fun c => ?_) (fun c => ?_)⟩
    case' refine_1 => exact fin (Bad1 fun z => (by rw [decide_eq_true z.2] at c; exact absurd c (by decide))) rfl
    have f1 : 2 ≤ f ∧ f ≤ 4 := ⟨a, by cases e : decide (f ≤ 4) with | true => exact of_decide_eq_true e | false => rw [e] at c; exact absurd rfl c⟩
    clear a c
    -- not is_depth(shape.fanout, shape.depth)
    have Bad2 : ¬ (1 ≤ d ∧ d ≤ 6 ∧ f ^ d.toNat ≤ 64) → oor f d w b s = some ("depth" : Str) := fun z => by unfold oor; rw [if_neg (not_not_intro f1), if_pos z]
    refine ⟨_, rfl, p, T.C_Shape, dx, _, _, rfl, hp, T.cl_Shape, T.na_Shape_fanout, rfl, _, rfl, p, T.C_Shape, dx, _, _, rfl, hp, T.cl_Shape, T.na_Shape_depth, rfl, f, d, rfl, f1.1, f1.2, fun r hr2 => ⟨_, rfl, ?_⟩⟩
    cases r with
    | false => exact iteT (fin (Bad2 fun z => Bool.false_ne_true (hr2.mpr z)) rfl)
    | true =>
    have f2 := hr2.mp rfl
    refine iteF ?_
    clear hr2
    have Bad3 : ¬ (1 ≤ w ∧ w ≤ 4) → oor f d w b s = some ("words" : Str) := fun z => by unfold oor; rw [if_neg (not_not_intro f1), if_neg (not_not_intro f2), if_pos z]
    refine ⟨_, rfl, p, T.C_Shape, dx, _, _, rfl, hp, T.cl_Shape, T.na_Shape_words, rfl, _, _, rfl, rfl, _, rfl, ite2 (fun a => ?_) (fun a => ?_)⟩
    case' refine_2 => exact ⟨_, rfl, iteT (fin (Bad3 fun z => a (decide_eq_true z.1)) rfl)⟩
    have a := of_decide_eq_true a
    refine ⟨_, _, rfl, rfl, _, rfl, ite2 (fun c => ?_) (fun c => ?_)⟩
    case' refine_1 => exact fin (Bad3 fun z => (by rw [decide_eq_true z.2] at c; exact absurd c (by decide))) rfl
    have f3 : 1 ≤ w ∧ w ≤ 4 := ⟨a, by cases e : decide (w ≤ 4) with | true => exact of_decide_eq_true e | false => rw [e] at c; exact absurd rfl c⟩
    clear a c
    have Bad4 : ¬ (d + 1 ≤ b ∧ b ≤ 1000) → oor f d w b s = some ("blocks" : Str) := fun z => by unfold oor; rw [if_neg (not_not_intro f1), if_neg (not_not_intro f2), if_neg (not_not_intro f3), if_pos z]
    refine ⟨_, rfl, p, T.C_Shape, dx, _, _, rfl, hp, T.cl_Shape, T.na_Shape_depth, rfl, _, _, rfl, rfl, _, rfl, p, T.C_Shape, dx, _, _, rfl, hp, T.cl_Shape, T.na_Shape_blocks, rfl, _, _, rfl, rfl, _, rfl, ite2 (fun a => ?_) (fun a => ?_)⟩
    case' refine_2 => exact ⟨_, rfl, iteT (fin (Bad4 fun z => a (decide_eq_true z.1)) rfl)⟩
    have a := of_decide_eq_true a
    refine ⟨_, _, rfl, rfl, _, rfl, ite2 (fun c => ?_) (fun c => ?_)⟩
    case' refine_1 => exact fin (Bad4 fun z => (by rw [decide_eq_true z.2] at c; exact absurd c (by decide))) rfl
    have f4 : d + 1 ≤ b ∧ b ≤ 1000 := ⟨a, by cases e : decide (b ≤ 1000) with | true => exact of_decide_eq_true e | false => rw [e] at c; exact absurd rfl c⟩
    clear a c
    have Bad5 : ¬ (0 ≤ s ∧ s ≤ 3) → oor f d w b s = some ("snapshots" : Str) := fun z => by unfold oor; rw [if_neg (not_not_intro f1), if_neg (not_not_intro f2), if_neg (not_not_intro f3), if_neg (not_not_intro f4), if_pos z]
    refine ⟨_, rfl, p, T.C_Shape, dx, _, _, rfl, hp, T.cl_Shape, T.na_Shape_snapshots, rfl, _, _, rfl, rfl, _, rfl, ite2 (fun a => ?_) (fun a => ?_)⟩
    case' refine_2 => exact ⟨_, rfl, iteT (fin (Bad5 fun z => a (decide_eq_true z.1)) rfl)⟩
    have a := of_decide_eq_true a
    refine ⟨_, _, rfl, rfl, _, rfl, ite2 (fun c => ?_) (fun c => ?_)⟩
    case' refine_1 => exact fin (Bad5 fun z => (by rw [decide_eq_true z.2] at c; exact absurd c (by decide))) rfl
    have f5 : 0 ≤ s ∧ s ≤ 3 := ⟨a, by cases e : decide (s ≤ 3) with | true => exact of_decide_eq_true e | false => rw [e] at c; exact absurd rfl c⟩
    exact fin (by unfold oor; rw [if_neg (not_not_intro f1), if_neg (not_not_intro f2), if_neg (not_not_intro f3), if_neg (not_not_intro f4), if_neg (not_not_intro f5)]) rfl
theorem ok_Shape (T : Txt K mg) : FnOk P w K mg base CX0 4 T.f_Shape___init__ T.d_Shape___init__ p_Shape___init__ (spShape T.C_Shape) := by
  have G_out_of_range : FnOk P w K mg base CX0 3 T.f_out_of_range T.d_out_of_range p_out_of_range (spOor T.C_Shape) := ok_oor T
  refine T.F_Shape___init__.ok sc_Shape___init__ (fun vs H Q E h => ?_) (fun cdv A outer s H vs Q E hr h => ?_)
  · obtain ⟨p, dx, f, d, w, b, s, rfl, _⟩ := h
    rfl
  · obtain ⟨p, dx, f, d, w, b, s, rfl, hp, ok, k⟩ := h
    refine ⟨_, (pss_cons (ps_fld (pv 0) (pv 1) rfl)
      (pss_cons (ps_fld (pv 0) (pv 2) rfl)
      (pss_cons (ps_fld (pv 0) (pv 3) rfl)
      (pss_cons (ps_fld (pv 0) (pv 4) rfl)
      (pss_cons (ps_fld (pv 0) (pv 5) rfl)
      (pss_cons (ps_set (i := 6) sc_Shape___init__.nd rfl (Or.inl rfl) (pe_call G_out_of_range (hr.mono (by decide)) rfl T.mg_out_of_range T.F_out_of_range.kp T.b_out_of_range .nil pass0 (pa_cons (pv 0) pa_nil)))
      (pss_one (ps_if (pt_cmpR op_notN (pv 6) pe_non (nomark _)) (pss_one ps_never) pss_nil)))))))), ?_⟩
    refine ⟨_, rfl, _, rfl, p, T.C_Shape, dx, _, rfl, hp, T.cl_Shape, T.na_Shape_fanout, (by show 0 < 1000; decide), ?_⟩
    refine ⟨_, rfl, _, rfl, p, T.C_Shape, dx, _, rfl, upd_same, T.cl_Shape, T.na_Shape_depth, (by show 1 < 1000; decide), ?_⟩
    refine ⟨_, rfl, _, rfl, p, T.C_Shape, dx, _, rfl, upd_same, T.cl_Shape, T.na_Shape_words, (by show 2 < 1000; decide), ?_⟩
    refine ⟨_, rfl, _, rfl, p, T.C_Shape, dx, _, rfl, upd_same, T.cl_Shape, T.na_Shape_blocks, (by show 3 < 1000; decide), ?_⟩
    refine ⟨_, rfl, _, rfl, p, T.C_Shape, dx, _, rfl, upd_same, T.cl_Shape, T.na_Shape_snapshots, (by show 4 < 1000; decide), ?_⟩
    rw [upd_upd, upd_upd, upd_upd, upd_upd]
    refine ⟨_, rfl, p, f, d, w, b, s, rfl, ⟨dx, upd_same⟩, ?_⟩
    obtain ⟨h1, h2, h3, h4, h5, h6, h7, h8, h9, h10, h11⟩ := ok
    have e : oor f d w b s = none := by
      unfold oor
      rw [if_neg (not_not_intro ⟨h1, h2⟩), if_neg (not_not_intro ⟨h3, h4, h5⟩), if_neg (not_not_intro ⟨h6, h7⟩), if_neg (not_not_intro ⟨h8, h9⟩), if_neg (not_not_intro ⟨h10, h11⟩)]
    rw [e]
    refine ⟨_, rfl, rfl, _, rfl, ?_⟩
    exact iteF k
theorem ok_leaves (T : Txt K mg) : FnOk P w K mg base CX0 2 T.f_Shape_leaves T.d_Shape_leaves p_Shape_leaves (spLeaves T.C_Shape) := by
  have G_leaves_below : FnOk P w K mg base CX0 1 T.f_leaves_below T.d_leaves_below p_leaves_below spLB := ok_LB T
  refine T.F_Shape_leaves.ok sc_Shape_leaves (fun vs H Q E h => ?_) (fun cdv A outer s H vs Q E hr h => ?_)
  · obtain ⟨p, f, d, w, b, s, rfl, _⟩ := h
    rfl
  · obtain ⟨p, f, d, w, b, s, rfl, ⟨dx, hp⟩, ⟨h1, h2, h3, h4, _⟩, k⟩ := h
    refine ⟨_, (pss_one (ps_ret (pe_call G_leaves_below (hr.mono (by decide)) rfl T.mg_leaves_below T.F_leaves_below.kp T.b_leaves_below .nil pass0 (pa_cons (pe_fld (pv 0) rfl) (pa_cons (pe_fld (pv 0) rfl) pa_nil))))), ?_⟩
    exact ⟨_, rfl, p, T.C_Shape, dx, _, _, rfl, hp, T.cl_Shape, T.na_Shape_fanout, rfl, _, rfl, p, T.C_Shape, dx, _, _, rfl, hp, T.cl_Shape, T.na_Shape_depth, rfl, f, d, rfl, h1, h2, by omega, h4, k⟩
theorem ok_way (T : Txt K mg) : FnOk P w K mg base CX0 1 T.f_Shape_way T.d_Shape_way p_Shape_way (spWay T.C_Shape) := by
  refine T.F_Shape_way.ok sc_Shape_way (fun vs H Q E h => ?_) (fun cdv A outer s H vs Q E hr h => ?_)
  · obtain ⟨p, f, d, w, b, s, i, rfl, _⟩ := h
    rfl
  · obtain ⟨p, f, d, w, b, s, i, rfl, ⟨dx, hp⟩, ⟨h1, h2, h3, h4, _⟩, h0, k⟩ := h
    refine ⟨_, (pss_cons (ps_set (i := 2) sc_Shape_way.nd rfl (Or.inl rfl) (pe_lst pa_nil))
      (pss_cons (ps_set (i := 3) sc_Shape_way.nd rfl (Or.inl rfl) (pv 1))
      (pss_cons (ps_for PassesOwn.never rfl (pi_range1 rfl T.z_range (pa_cons (pe_fld (pv 0) rfl) pa_nil)) (pg_name (i := 4) sc_Shape_way.nd rfl (Or.inl rfl)) (pss_cons (ps_expr (pe_bm PySem.F.plainAttrs_list PySem.F.slot_list_append PySem.F.type_list_append mt_append (pv 2) (pa_cons (pe_op op_modN (pv 3) (pe_fld (pv 0) rfl)) pa_nil)))
      (pss_one (ps_set (i := 3) sc_Shape_way.nd rfl (Or.inl rfl) (pe_op op_fdivN (pv 3) (pe_fld (pv 0) rfl))))))
      (pss_one (ps_ret (pe_callTy call_tuple_of (by rfl) T.z_tuple (by decide +kernel) (pa_cons (pe_revL (pv 2)) pa_nil))))))), ?_⟩
    refine ⟨Nat.zero_le _, fun l hl => ?_⟩
    have npl : p ≠ l := ne_of_none hp hl
    have hf0 : f ≠ 0 := by omega
    have hf1 : f.natAbs < 1073741824 := by omega
    have hpl : ∀ o, (upd H l o) p = some (.ins T.C_Shape dx (shF f d w b s)) := fun o => by rw [upd_ne npl]; exact hp
    have hpl2 : ∀ o o2, (upd (upd H l o) l o2) p = some (.ins T.C_Shape dx (shF f d w b s)) := fun o o2 => by rw [upd_upd]; exact hpl _
    refine ⟨_, rfl, _, rfl, p, T.C_Shape, dx, _, _, rfl, hpl _, T.cl_Shape, T.na_Shape_depth, rfl, _, rfl, by omega, by omega, for_range (n := d.toNat) (fun j σ H' => ∃ (v : Option V),
      σ = [some (.ref p), some (.int i), some (.ref l), some (.int (i / f ^ j)), v] ∧ H' = upd H l (.lst (((List.range j).map fun m => i / f ^ m % f).map V.int))) ⟨none, ?_, rfl⟩ ?_ ?_⟩
    · rw [Int.pow_zero, Int.ediv_one]; rfl
    · rintro j σ H' hj ⟨v, rfl, rfl⟩
      refine ⟨_, rfl, .inl ⟨rfl, _, SqL.of upd_same⟩, _, rfl, _, rfl, p, T.C_Shape, dx, _, _, rfl, hpl _, T.cl_Shape, T.na_Shape_fanout, rfl, _, _, rfl, rfl, hf0, l, _, _, rfl, rfl, upd_same, small1000 (by simp; omega), ?_⟩
      refine ⟨_, rfl, _, rfl, p, T.C_Shape, dx, _, _, rfl, hpl2 _ _, T.cl_Shape, T.na_Shape_fanout, rfl, _, _, rfl, rfl, ⟨hf0, hf1⟩, ?_⟩
      refine ⟨some (V.int (0 + (j : Nat))), ?_, ?_⟩
      · show [some (V.ref p), some (V.int i), some (V.ref l), some (V.int ((i / f ^ j).fdiv f)), some (V.int (0 + (j : Nat)))] = _
        rw [Int.fdiv_eq_ediv_of_nonneg _ (by omega), Int.ediv_ediv_of_nonneg (Int.pow_nonneg (by omega)), ← Int.pow_succ]
      · dsimp only
        rw [upd_upd, List.range_succ, List.map_append, List.map_append, Int.fmod_eq_emod_of_nonneg _ (by omega)]; rfl
    · rintro σ H' ⟨v, rfl, rfl⟩
      refine ⟨_, rfl, l, _, rfl, SqL.of upd_same, fun q hq => ?_⟩
      refine ⟨q, _, rfl, .inl ⟨SqL.of upd_same, fun t ht => ?_⟩⟩
      have hql : q ≠ l := fun e => by rw [e, upd_same] at hq; cases hq
      have htq : t ≠ q := fun e => by rw [e, upd_same] at ht; cases ht
      rw [upd_ne htq] at ht
      have htl : t ≠ l := fun e => by rw [e, upd_same] at ht; cases ht
      rw [upd_ne htl] at ht
      rw [upd_ne hql] at hq
      refine k t _ ht ((Same.new hl).trans ((Same.new (by rw [upd_ne hql]; exact hq)).trans (Same.new (by rw [upd_ne htq, upd_ne htl]; exact ht)))) ?_
      rw [upd_same, wayV, List.map_reverse]

theorem ok_lshape (T : Txt K mg) : FnOk P w K mg base CX0 6 T.f__law_shape T.d__law_shape p__law_shape (spLShape T.C_Shape) := by
  have G__law_draw : FnOk P w K mg base CX0 1 T.f__law_draw T.d__law_draw p__law_draw spDraw := ok_draw T
  have G_Shape___init__ : FnOk P w K mg base CX0 4 T.f_Shape___init__ T.d_Shape___init__ p_Shape___init__ (spShape T.C_Shape) := ok_Shape T
  refine T.F__law_shape.ok sc__law_shape (fun vs H Q E h => ?_) (fun cdv A outer s H vs Q E hr h => ?_)
  · obtain ⟨a, c, j, rfl, _⟩ := h
    rfl
  · obtain ⟨a, c, j, rfl, S0, j0, j2, k⟩ := h
    refine ⟨_, (pss_cons (ps_set (i := 2) sc__law_shape.nd rfl (Or.inl rfl) (pe_op op_add pe_int (pe_call G__law_draw (hr.mono (by decide)) rfl T.mg__law_draw T.F__law_draw.kp T.b__law_draw .nil pass0 (pa_cons (pv 0) (pa_cons pe_int pa_nil)))))
      (pss_cons (ps_set (i := 3) sc__law_shape.nd rfl (Or.inl rfl) (pe_op op_add pe_int (pe_call G__law_draw (hr.mono (by decide)) rfl T.mg__law_draw T.F__law_draw.kp T.b__law_draw .nil pass0 (pa_cons (pv 0) (pa_cons (pe_ix ix_list (pe_lst (pa_cons pe_int (pa_cons pe_int (pa_cons pe_int pa_nil)))) (pe_op op_sub (pv 2) pe_int) (fun _ _ => rfl)) pa_nil)))))
      (pss_cons (ps_set (i := 4) sc__law_shape.nd rfl (Or.inl rfl) (pe_op op_add pe_int (pe_call G__law_draw (hr.mono (by decide)) rfl T.mg__law_draw T.F__law_draw.kp T.b__law_draw .nil pass0 (pa_cons (pv 0) (pa_cons pe_int pa_nil)))))
      (pss_cons (ps_set (i := 5) sc__law_shape.nd rfl (Or.inl rfl) (pe_call G__law_draw (hr.mono (by decide)) rfl T.mg__law_draw T.F__law_draw.kp T.b__law_draw .nil pass0 (pa_cons (pv 0) (pa_cons pe_int pa_nil))))
      (pss_cons (ps_set (i := 6) sc__law_shape.nd rfl (Or.inl rfl) pe_int)
      (pss_cons (ps_set (i := 7) sc__law_shape.nd rfl (Or.inl rfl) pe_int)
      (pss_cons (ps_for PassesOwn.never rfl (pi_range1 rfl T.z_range (pa_cons (pe_op op_add (pv 3) pe_int) pa_nil)) (pg_name (i := 8) sc__law_shape.nd rfl (Or.inl rfl)) (pss_cons (ps_set (i := 6) sc__law_shape.nd rfl (Or.inl rfl) (pe_op op_add (pv 6) (pv 7)))
      (pss_one (ps_set (i := 7) sc__law_shape.nd rfl (Or.inl rfl) (pe_op op_mul (pv 7) (pv 2))))))
      (pss_cons (ps_set (i := 9) sc__law_shape.nd rfl (Or.inl rfl) (pe_op op_mul (pe_op op_add (pv 5) pe_int) (pv 6)))
      (pss_cons (ps_set (i := 10) sc__law_shape.nd rfl (Or.inl rfl) (pe_callB (call_min2 rfl) (by rfl) T.z_min (by decide +kernel) (pa_cons pe_int (pa_cons (pe_ix ix_list (pe_lst (pa_cons (pv 9) (pa_cons (pe_op op_add (pv 9) (pe_call G__law_draw (hr.mono (by decide)) rfl T.mg__law_draw T.F__law_draw.kp T.b__law_draw .nil pass0 (pa_cons (pv 0) (pa_cons pe_int pa_nil)))) (pa_cons (pe_callB (call_max2 rfl) (by rfl) T.z_max (by decide +kernel) (pa_cons (pe_op op_add (pv 3) pe_int) (pa_cons (pe_op op_sub (pv 9) (pe_call G__law_draw (hr.mono (by decide)) rfl T.mg__law_draw T.F__law_draw.kp T.b__law_draw .nil pass0 (pa_cons (pv 0) (pa_cons (pv 9) pa_nil)))) pa_nil))) pa_nil)))) (pv 1) (fun _ _ => rfl)) pa_nil))))
      (pss_one (ps_ret (pe_makeK0 T.M_Shape G_Shape___init__ (hr.mono (by decide)) rfl T.mg_Shape T.kb_Shape pass0 (pk_cons (pv 2) (pk_cons (pv 3) (pk_cons (pv 4) (pk_cons (pv 10) (pk_cons (pv 5) pk_nil))))))))))))))))), ?_⟩
    -- fanout, depth, words, snapshots
    refine ⟨_, rfl, a, c, 3, rfl, S0, by decide, by decide, fun r1 H1 a1 b1 S1 K1 => ⟨_, _, rfl, rfl, ?_⟩⟩
    obtain ⟨dm, hd0, hd1, hd2⟩ : ∃ dm : Int, ([V.int 6, .int 3, .int 3] : List V)[r1.toNat]? = some (.int dm) ∧ 1 ≤ dm ∧ ∀ e : Int, 0 ≤ e → e < dm → 1 ≤ 1 + e ∧ 1 + e ≤ 6 ∧ (2 + r1) ^ (1 + e).toNat ≤ 64 := by
      have q : r1 = 0 ∨ r1 = 1 ∨ r1 = 2 := by omega
      rcases q with rfl | rfl | rfl
      · refine ⟨6, rfl, by decide, fun e e0 e1 => ⟨by omega, by omega, ?_⟩⟩
        have z : e = 0 ∨ e = 1 ∨ e = 2 ∨ e = 3 ∨ e = 4 ∨ e = 5 := by omega
        rcases z with rfl | rfl | rfl | rfl | rfl | rfl <;> decide
      · refine ⟨3, rfl, by decide, fun e e0 e1 => ⟨by omega, by omega, ?_⟩⟩
        have z : e = 0 ∨ e = 1 ∨ e = 2 := by omega
        rcases z with rfl | rfl | rfl <;> decide
      · refine ⟨3, rfl, by decide, fun e e0 e1 => ⟨by omega, by omega, ?_⟩⟩
        have z : e = 0 ∨ e = 1 ∨ e = 2 := by omega
        rcases z with rfl | rfl | rfl <;> decide
    refine ⟨_, rfl, (by show 3 ≤ sizeLine; decide), fun l hl => ?_⟩
    have L1 : StA a c (upd H1 l (.lst [.int 6, .int 3, .int 3])) := S1.keep (Same.new hl)
    have K1' : Kp a c H (upd H1 l (.lst [.int 6, .int 3, .int 3])) := K1.trans (Kp.same (Same.new hl))
    refine ⟨_, rfl, _, _, rfl, rfl, l, _, _, _, rfl, rfl, SqL.of upd_same, at_of (j := r1.toNat) (by show 2 + r1 - 2 = _; omega) hd0, ?_⟩
    refine ⟨a, c, dm, rfl, L1, hd1, ?_, fun r2 H2 a2 b2 S2 K2 => ⟨_, _, rfl, rfl, ?_⟩⟩
    · have q : r1 = 0 ∨ r1 = 1 ∨ r1 = 2 := by omega
      rcases q with rfl | rfl | rfl <;> (simp at hd0; omega)
    obtain ⟨dd1, dd2, dd3⟩ := hd2 r2 a2 b2
    refine ⟨_, rfl, a, c, 4, rfl, S2, by decide, by decide, fun r3 H3 a3 b3 S3 K3 => ⟨_, _, rfl, rfl, ?_⟩⟩
    refine ⟨_, rfl, a, c, 4, rfl, S3, by decide, by decide, fun r4 H4 a4 b4 S4 K4 => ?_⟩
    have K04 : Kp a c H H4 := K1'.trans (K2.trans (K3.trans K4))
    clear K1 K1' K2 K3 K4 L1 S1 S2 S3 S0 hd2 hd0
    obtain ⟨cl, ch⟩ := cN_bd (f := 2 + r1) (n := (1 + r2).toNat) (by omega) (by omega) (by omega) (by omega) dd3
    -- the cells
    refine ⟨_, rfl, _, _, rfl, rfl, _, rfl, by omega, by omega, for_range (n := (1 + r2 + 1).toNat) (fun i σ H' => ∃ (x y : Int) (v : Option V), σ = [some (.ref a), some (.int j), some (.int (2 + r1)), some (.int (1 + r2)), some (.int (1 + r3)), some (.int r4), some (.int x), some (.int y), v, none, none] ∧ H' = H4 ∧ x = cN (2 + r1) i ∧ y = (2 + r1) ^ i)
      ⟨0, 1, none, rfl, rfl, rfl, (Int.pow_zero _).symm⟩ ?_ ?_⟩
    · rintro i σ H' hi ⟨x, y, v, rfl, rfl, ex, ey⟩
      refine ⟨_, rfl, _, rfl, _, _, rfl, rfl, ?_⟩
      refine ⟨_, rfl, _, rfl, _, _, rfl, rfl, .inr ⟨by omega, by omega⟩, _, _, _, rfl, rfl, by rw [ex, ey]; rfl, by rw [ey]; exact (Int.pow_succ _ i).symm⟩
    rintro σ H' ⟨x, y, v, rfl, rfl, ex, ey⟩
    rw [show (1 + r2 + 1).toNat = (1 + r2).toNat + 1 by omega] at ex
    have hA : 1 + r2 + 1 ≤ (r4 + 2) * x ∧ (r4 + 2) * x ≤ 635 := by
      rw [← ex] at cl ch
      have q : r4 = 0 ∨ r4 = 1 ∨ r4 = 2 ∨ r4 = 3 := by omega
      rcases q with rfl | rfl | rfl | rfl <;> omega
    refine ⟨_, rfl, _, _, rfl, rfl, _, rfl, _, _, rfl, rfl, .inl ⟨by omega, by omega⟩, ?_⟩
    -- the number of blocks
    refine ⟨_, rfl, _, rfl, _, rfl, a, c, 9, rfl, S4, by decide, by decide, fun r5 H5 a5 b5 S5 K5 => ⟨_, _, rfl, rfl, ?_⟩⟩
    refine ⟨_, rfl, _, _, rfl, rfl, _, rfl, _, rfl, _, rfl, a, c, ((r4 + 2) * x), rfl, S5, by omega, by omega, fun r6 H6 a6 b6 S6 K6 => ⟨_, _, rfl, rfl, _, _, rfl, ?_⟩⟩
    refine ⟨(by show 3 ≤ sizeLine; decide), fun l2 hl2 => ?_⟩
    obtain ⟨bv, hb0, hb1, hb2⟩ : ∃ bv : Int, ([V.int ((r4 + 2) * x), .int (((r4 + 2) * x) + r5), .int (if ((r4 + 2) * x) - r6 > 1 + r2 + 1 then ((r4 + 2) * x) - r6 else 1 + r2 + 1)] : List V)[j.toNat]? = some (.int bv) ∧ 1 + r2 + 1 ≤ bv ∧ (j = 0 → bv = ((r4 + 2) * x)) := by
      have q : j = 0 ∨ j = 1 ∨ j = 2 := by omega
      rcases q with rfl | rfl | rfl
      · exact ⟨((r4 + 2) * x), rfl, hA.1, fun _ => rfl⟩
      · exact ⟨((r4 + 2) * x) + r5, rfl, by omega, fun z => by omega⟩
      · refine ⟨_, rfl, ?_, fun z => by omega⟩
        split <;> omega
    refine ⟨_, rfl, l2, _, _, _, rfl, rfl, SqL.of upd_same, at_of (j := j.toNat) (by omega) hb0, _, _, rfl, ?_⟩
    have L6 : StA a c (upd H6 l2 (.lst [.int ((r4 + 2) * x), .int (((r4 + 2) * x) + r5), .int (if ((r4 + 2) * x) - r6 > 1 + r2 + 1 then ((r4 + 2) * x) - r6 else 1 + r2 + 1)])) := S6.keep (Same.new hl2)
    have K6' : Kp a c H (upd H6 l2 (.lst [.int ((r4 + 2) * x), .int (((r4 + 2) * x) + r5), .int (if ((r4 + 2) * x) - r6 > 1 + r2 + 1 then ((r4 + 2) * x) - r6 else 1 + r2 + 1)])) := K04.trans (K5.trans (K6.trans (Kp.same (Same.new hl2))))
    refine ⟨_, rfl, _, rfl, _, rfl, _, rfl, _, rfl, rfl, rfl, fun p dx hp hdx nex => ?_⟩
    have hB : 1 + r2 + 1 ≤ (if bv < 1000 then bv else 1000) ∧ (if bv < 1000 then bv else 1000) ≤ 1000 ∧ (j = 0 → (if bv < 1000 then bv else 1000) = ((r4 + 2) * x)) := by
      refine ⟨?_, ?_, fun z => ?_⟩
      · split <;> omega
      · split <;> omega
      · rw [hb2 z, if_pos (by have := hA.2; omega)]
    have hq : p ≠ dx := fun e => nex e.symm
    refine ⟨p, dx, _, _, _, _, _, rfl, upd_same, ⟨by omega, by omega, dd1, dd2, dd3, by omega, by omega, ?_, ?_, a4, by omega⟩, rfl, ?_⟩
    · exact hB.1
    · exact hB.2.1
    have pa : ∀ {b : Addr} {o : HO}, (upd H6 l2 (.lst [.int ((r4 + 2) * x), .int (((r4 + 2) * x) + r5), .int (if ((r4 + 2) * x) - r6 > 1 + r2 + 1 then ((r4 + 2) * x) - r6 else 1 + r2 + 1)])) b = some o → b ≠ p ∧ b ≠ dx := fun e => ⟨ne_of_none e hp, ne_of_none e hdx⟩
    have SS : Same (upd H6 l2 (.lst [.int ((r4 + 2) * x), .int (((r4 + 2) * x) + r5), .int (if ((r4 + 2) * x) - r6 > 1 + r2 + 1 then ((r4 + 2) * x) - r6 else 1 + r2 + 1)])) (upd (upd (upd (upd H6 l2 (.lst [.int ((r4 + 2) * x), .int (((r4 + 2) * x) + r5), .int (if ((r4 + 2) * x) - r6 > 1 + r2 + 1 then ((r4 + 2) * x) - r6 else 1 + r2 + 1)])) dx (.own p)) p (.ins T.C_Shape dx [])) p (.ins T.C_Shape dx (shF (2 + r1) (1 + r2) (1 + r3) (if bv < 1000 then bv else 1000) r4))) := fun b o e => by
      rw [upd_ne (pa e).1, upd_ne (pa e).1, upd_ne (pa e).2]; exact e
    refine k p (2 + r1) (1 + r2) (1 + r3) (if bv < 1000 then bv else 1000) r4 _ ?_ ⟨dx, upd_same⟩ ⟨by omega, by omega, dd1, dd2, dd3, by omega, by omega, by exact hB.1, by exact hB.2.1, a4, by omega⟩ ?_ (L6.keep SS) (K6'.trans (Kp.same SS))
    · cases z : H p with
      | none => rfl
      | some o =>
        have pa1 : p ≠ a := fun q => by
          obtain ⟨o2, e⟩ := L6.some1
          rw [← q, hp] at e
          cases e
        have pc1 : p ≠ c := fun q => by
          obtain ⟨o2, e⟩ := L6.some2
          rw [← q, hp] at e
          cases e
        have e := K6' p o pa1 pc1 z
        rw [hp] at e
        cases e
    · intro z
      rw [hB.2.2 z, ex]

theorem ok_lleaves (T : Txt K mg) : FnOk P w K mg base CX0 1 T.f__law_leaves T.d__law_leaves p__law_leaves (spLeaves T.C_Shape) := by
  refine T.F__law_leaves.ok sc__law_leaves (fun vs H Q E h => ?_) (fun cdv A outer s H vs Q E hr h => ?_)
  · obtain ⟨p, f, d, w, b, s, rfl, _⟩ := h
    rfl
  · obtain ⟨p, f, d, w, b, s, rfl, ⟨dx, hp⟩, ⟨h1, h2, h3, h4, _⟩, k⟩ := h
    refine ⟨_, (pss_cons (ps_set (i := 1) sc__law_leaves.nd rfl (Or.inl rfl) pe_int)
      (pss_cons (ps_for PassesOwn.never rfl (pi_range1 rfl T.z_range (pa_cons (pe_fld (pv 0) rfl) pa_nil)) (pg_name (i := 2) sc__law_leaves.nd rfl (Or.inl rfl)) (pss_one (ps_set (i := 1) sc__law_leaves.nd rfl (Or.inl rfl) (pe_op op_mul (pv 1) (pe_fld (pv 0) rfl)))))
      (pss_one (ps_ret (pv 1))))), ?_⟩
    refine ⟨_, rfl, p, T.C_Shape, dx, _, _, rfl, hp, T.cl_Shape, T.na_Shape_depth, rfl, _, rfl, by omega, by omega, for_range (n := d.toNat) (fun i σ H' => ∃ (n : Int) (v : Option V), σ = [some (.ref p), some (.int n), v] ∧ H' = H ∧ n = f ^ i)
      ⟨1, none, rfl, rfl, (Int.pow_zero f).symm⟩ ?_ ?_⟩
    · rintro i σ H' hi ⟨n, v, rfl, rfl, e⟩
      exact ⟨_, rfl, _, rfl, p, T.C_Shape, dx, _, _, rfl, hp, T.cl_Shape, T.na_Shape_fanout, rfl, _, _, rfl, rfl, .inr ⟨by omega, by omega⟩, _, _, rfl, rfl, by rw [e]; exact (Int.pow_succ f i).symm⟩
    · rintro σ H' ⟨n, v, rfl, rfl, e⟩
      exact ⟨_, rfl, e ▸ k⟩

theorem way_lo (i : Int) {B : Int} (h : 0 < B) : i / B * B ≤ i ∧ i < i / B * B + B := by
  have h1 := Int.emod_add_mul_ediv i B
  have h2 := Int.emod_nonneg i (Int.ne_of_gt h)
  have h3 := Int.emod_lt_of_pos i h
  rw [Int.mul_comm B] at h1
  omega
theorem way_hi {F f q c i : Int} (hF : 0 < F) (h : i < q * (F * f) + F * f) (z : q * (F * f) + c * F + F ≤ i) : c + 1 < f := by
  have h1 : (c + 1) * F < f * F := by rw [Int.add_mul, Int.one_mul, Int.mul_comm f]; omega
  exact Int.lt_of_mul_lt_mul_right h1 (Int.le_of_lt hF)
theorem way_fin {F f q c i : Int} (hF : 0 < F) (_hf : 0 < f) (h1 : q * (F * f) + c * F ≤ i) (h2 : i < q * (F * f) + c * F + F) (c0 : 0 ≤ c) (c1 : c < f) : i / F = q * f + c ∧ i / F % f = c := by
  have e : (q * f + c) * F = q * (F * f) + c * F := by rw [Int.add_mul, Int.mul_assoc, Int.mul_comm f F]
  have a : q * f + c ≤ i / F := (Int.le_ediv_iff_mul_le hF).mpr (by rw [e]; exact h1)
  have b : i / F < q * f + c + 1 := Int.ediv_lt_of_lt_mul hF (by rw [Int.add_mul, Int.one_mul, e]; exact h2)
  have g : i / F = q * f + c := by omega
  refine ⟨g, ?_⟩
  rw [g, Int.add_comm, Int.add_mul_emod_self_right, Int.emod_eq_of_lt c0 c1]
theorem wayV_suf (f : Int) (n k : Nat) (i : Int) (h : k < n) : (((List.range n).map fun j => i / f ^ j % f).reverse).take (k + 1) = (((List.range n).map fun j => i / f ^ j % f).reverse).take k ++ [i / f ^ (n - 1 - k) % f] := by
  rw [List.take_add_one]
  congr 1
  rw [List.getElem?_reverse (by simpa using h)]
  simp only [List.length_map, List.length_range, List.getElem?_map]
  rw [List.getElem?_range (by omega)]
  rfl
theorem ok_lway (T : Txt K mg) : FnOk P w K mg base CX0 2 T.f__law_way T.d__law_way p__law_way (fun vs H Q _ => ∃ (p : Addr) (f d w b s i : Int), vs = [.ref p, .int i] ∧ ShAt T.C_Shape H p f d w b s ∧ ShOk f d w b s ∧ 0 ≤ i ∧ i < f ^ d.toNat ∧
    ∀ (t : Addr) (H' : Hp), Same H H' → H' t = some (.tup ((wayV f d.toNat i).map V.int)) → Q (.ref t) H') := by
  have G__law_leaves : FnOk P w K mg base CX0 1 T.f__law_leaves T.d__law_leaves p__law_leaves (spLeaves T.C_Shape) := ok_lleaves T
  refine T.F__law_way.ok sc__law_way (fun vs H Q E h => ?_) (fun cdv A outer s H vs Q E hr h => ?_)
  · obtain ⟨p, f, d, w, b, s, i, rfl, _⟩ := h
    rfl
  · obtain ⟨p, f, d, w, b, s, i, rfl, hS, ok, i0, i1, k⟩ := h
    refine ⟨_, (pss_cons (ps_set (i := 2) sc__law_way.nd rfl (Or.inl rfl) (pe_tup pa_nil))
      (pss_cons (ps_set (i := 3) sc__law_way.nd rfl (Or.inl rfl) pe_int)
      (pss_cons (ps_set (i := 4) sc__law_way.nd rfl (Or.inl rfl) (pe_call G__law_leaves (hr.mono (by decide)) rfl T.mg__law_leaves T.F__law_leaves.kp T.b__law_leaves .nil pass0 (pa_cons (pv 0) pa_nil)))
      (pss_cons (ps_while PassesOwn.never (pt_cmpR op_gt (pv 4) pe_int (nomark _)) (pss_cons (ps_set (i := 4) sc__law_way.nd rfl (Or.inl rfl) (pe_op op_fdivN (pv 4) (pe_fld (pv 0) rfl)))
      (pss_cons (ps_set (i := 5) sc__law_way.nd rfl (Or.inl rfl) pe_int)
      (pss_cons (ps_while PassesOwn.never (pt_cmpR op_ge (pv 1) (pe_op op_add (pv 3) (pv 4)) (nomark _)) (pss_cons (ps_set (i := 3) sc__law_way.nd rfl (Or.inl rfl) (pe_op op_add (pv 3) (pv 4)))
      (pss_one (ps_set (i := 5) sc__law_way.nd rfl (Or.inl rfl) (pe_op op_add (pv 5) pe_int)))))
      (pss_one (ps_set (i := 2) sc__law_way.nd rfl (Or.inl rfl) (pe_op op_catA (pv 2) (pe_tup (pa_cons (pv 5) pa_nil)))))))))
      (pss_one (ps_ret (pv 2))))))), ?_⟩
    obtain ⟨dx, hp⟩ := id hS
    have hf : 2 ≤ f ∧ f ≤ 4 := ⟨ok.1, ok.2.1⟩
    have hd : 1 ≤ d ∧ d ≤ 6 := ⟨ok.2.2.1, ok.2.2.2.1⟩
    have hf0 : f ≠ 0 := by omega
    have hf1 : f.natAbs < 1073741824 := by omega
    refine ⟨Nat.zero_le _, fun t0 ht0 => ?_⟩
    refine ⟨_, rfl, p, f, d, w, b, s, rfl, ⟨dx, (Same.new ht0) _ _ hp⟩, ok, ?_⟩
    -- while many > 1: n levels are left
    refine ⟨fun n σ H' => ∃ (t : Addr) (v : Option V), n ≤ d.toNat ∧ σ = [some (.ref p), some (.int i), some (.ref t), some (.int (i / f ^ n * f ^ n)), some (.int (f ^ n)), v] ∧ Same H H' ∧ H' t = some (.tup (((wayV f d.toNat i).take (d.toNat - n)).map V.int)),
      ⟨d.toNat, t0, none, Nat.le_refl _, ?_, Same.new ht0, ?_⟩, ?_⟩
    · rw [Int.ediv_eq_zero_of_lt i0 i1, Int.zero_mul]; rfl
    · rw [upd_same, Nat.sub_self]; rfl
    rintro n σ H' ⟨t, v, hn, rfl, SS, ht⟩
    refine ⟨_, rfl, _, _, rfl, rfl, _, rfl, ?_⟩
    cases n with
    | zero =>
      refine iteDF (by rw [Int.pow_zero]; decide) ?_
      refine ⟨_, rfl, k t H' SS ?_⟩
      rw [ht, Nat.sub_zero, List.take_of_length_le (by rw [wayV_len]; exact Nat.le_refl _)]
    | succ n =>
      have hpos : ∀ m : Nat, 0 < f ^ m := fun m => Int.pow_pos (by omega)
      have hs1 : f ^ (n + 1) = f ^ n * f := Int.pow_succ f n
      refine iteDT (by have := hpos n; rw [hs1]; have : f ^ n * 2 ≤ f ^ n * f := Int.mul_le_mul_of_nonneg_left hf.1 (Int.le_of_lt (hpos n)); omega) ?_
      refine ⟨_, fun _ _ h => h, ?_⟩
      refine ⟨_, rfl, _, rfl, p, T.C_Shape, dx, _, _, rfl, SS _ _ hp, T.cl_Shape, T.na_Shape_fanout, rfl, _, _, rfl, rfl, ⟨hf0, hf1⟩, ?_⟩
      have e0 : (f ^ (n + 1)).fdiv f = f ^ n := by rw [Int.fdiv_eq_ediv_of_nonneg _ (by omega), hs1, Int.mul_ediv_cancel _ hf0]
      have e1 := way_lo i (hpos (n + 1))
      have hF := hpos n
      rw [hs1] at e1
      -- low + child * many
      refine ⟨fun m σ H2 => ∃ (c : Int), m = (f - c).toNat ∧ 0 ≤ c ∧ c < f ∧ σ = [some (.ref p), some (.int i), some (.ref t), some (.int (i / (f ^ n * f) * (f ^ n * f) + c * f ^ n)), some (.int (f ^ n)), some (.int c)] ∧ H2 = H' ∧ i / (f ^ n * f) * (f ^ n * f) + c * f ^ n ≤ i,
        ⟨_, 0, rfl, Int.le_refl _, by omega, ?_, rfl, by rw [Int.zero_mul]; omega⟩, ?_⟩
      · rw [Int.zero_mul, Int.add_zero, ← hs1]
        show [some (.ref p), some (.int i), some (.ref t), some (.int (i / f ^ (n + 1) * f ^ (n + 1))), some (V.int ((f ^ (n + 1)).fdiv f)), some (V.int 0)] = _
        rw [e0]
      rintro m σ H2 ⟨c, rfl, c0, c1, rfl, rfl, hlo⟩
      refine ⟨_, rfl, _, rfl, _, rfl, _, _, rfl, rfl, _, _, rfl, rfl, _, rfl, ?_⟩
      refine ite2 (fun z => ?_) (fun z => ?_)
      · have z : i / (f ^ n * f) * (f ^ n * f) + c * f ^ n + f ^ n ≤ i := of_decide_eq_true z
        have c2 : c + 1 < f := way_hi hF e1.2 z
        have e2 : (c + 1) * f ^ n = c * f ^ n + f ^ n := by rw [Int.add_mul, Int.one_mul]
        refine ⟨_, fun _ _ h => h, ?_⟩
        refine ⟨_, rfl, _, rfl, _, _, rfl, rfl, _, rfl, _, _, rfl, rfl, (f - (c + 1)).toNat, by omega, c + 1, rfl, by omega, c2, ?_, rfl, by rw [e2, ← Int.add_assoc]; exact z⟩
        rw [e2, ← Int.add_assoc]
        rfl
      · have z : ¬ i / (f ^ n * f) * (f ^ n * f) + c * f ^ n + f ^ n ≤ i := fun y => z (decide_eq_true y)
        obtain ⟨g1, g2⟩ := way_fin hF (by omega) hlo (by omega) c0 c1
        refine ⟨_, rfl, _, rfl, (by show 1 ≤ sizeLine; decide), fun u hu => ?_⟩
        have Su : Same H2 (upd H2 u (.tup [.int c])) := Same.new hu
        have e3 : (wayV f d.toNat i).take (d.toNat - n) = (wayV f d.toNat i).take (d.toNat - (n + 1)) ++ [c] := by
          rw [show d.toNat - n = d.toNat - (n + 1) + 1 by omega]
          refine (wayV_suf f d.toNat (d.toNat - (n + 1)) i (by omega)).trans ?_
          rw [show d.toNat - 1 - (d.toNat - (n + 1)) = n by omega, g2]
          rfl
        have e4 : i / (f ^ n * f) * (f ^ n * f) + c * f ^ n = i / f ^ n * f ^ n := by rw [g1, Int.add_mul, Int.mul_assoc (i / (f ^ n * f)), Int.mul_comm f]
        have fin : ∀ (r : Addr) (H3 : Hp), Same H H3 → H3 r = some (.tup (((wayV f d.toNat i).take (d.toNat - n)).map V.int)) →
          ∃ m', m' < n + 1 ∧ ∃ (t : Addr) (v : Option V), m' ≤ d.toNat ∧ [some (.ref p), some (.int i), some (.ref r), some (.int (i / (f ^ n * f) * (f ^ n * f) + c * f ^ n)), some (.int (f ^ n)), some (.int c)] = [some (.ref p), some (.int i), some (.ref t), some (.int (i / f ^ m' * f ^ m')), some (.int (f ^ m')), v] ∧ Same H H3 ∧
            H3 t = some (.tup (((wayV f d.toNat i).take (d.toNat - m')).map V.int)) := fun r H3 s3 h3 =>
          ⟨n, Nat.lt_succ_self _, r, some (.int c), by omega, by rw [e4], s3, h3⟩
        refine ⟨t, u, _, _, rfl, rfl, SqT.of (Su _ _ ht), SqT.of upd_same, ?_, fun z => ?_, fun _ z => absurd z (by simp), fun _ _ r hr => ?_⟩
        · rw [List.length_map, List.length_take, wayV_len]
          exact Nat.le_of_lt (small1000 (by simp; omega))
        · refine fin u _ (SS.trans Su) ?_
          rw [upd_same, e3, List.map_append, z]
          rfl
        · refine fin r _ ((SS.trans Su).trans (Same.new hr)) ?_
          rw [upd_same, e3, List.map_append]
          rfl

theorem ok_pre (T : Txt K mg) : FnOk P w K mg base CX0 2 T.f_prefixes T.d_prefixes p_prefixes (spPre K T.C_Shape) := by
  have G_Shape_way : FnOk P w K mg base CX0 1 T.f_Shape_way T.d_Shape_way p_Shape_way (spWay T.C_Shape) := ok_way T
  refine T.F_prefixes.ok sc_prefixes (fun vs H Q E h => ?_) (fun cdv A outer s H vs Q E hr h => ?_)
  · obtain ⟨p, l, f, d, wd, b, s, idx, rfl, _⟩ := h
    rfl
  · obtain ⟨p, l, f, d, wd, b, s, idx, rfl, ⟨dx, hp⟩, ok, hl, hlen, hi, k⟩ := h
    refine ⟨_, (pss_cons (ps_setLc (i := 2) (own := [("index", 3)]) (g := gName 3) (tt := tYes) rfl sc_prefixes.nd rfl rfl (sw_true rfl rfl rfl (by decide +kernel)) (pi_list (pv 1)) (blkOk_by (N := n_prefixes) (sc := defScope s_prefixes) (by decide +kernel)) (fun _ _ _ _ _ => (pg_name (i := 3) sc_prefixes.nd rfl (Or.inl rfl))) (fun _ _ _ _ _ => pts_nil) (fun _ _ _ _ _ => (pe_meth (pv 0) T.cl_Shape T.m_Shape_way G_Shape_way (hr.mono (by decide)) T.b_Shape_way .nil pass0 (pa_cons (pv 3) pa_nil))))
      (pss_cons (ps_set (i := 4) sc_prefixes.nd rfl (Or.inl rfl) (pe_lst pa_nil))
      (pss_cons (ps_for PassesOwn.never rfl (pi_revR rfl T.z_reversed (prg_1 rfl T.z_range (pe_fld (pv 0) rfl))) (pg_name (i := 5) sc_prefixes.nd rfl (Or.inr rfl)) (pss_one (ps_expr (pe_bm PySem.F.plainAttrs_list PySem.F.slot_list_extend PySem.F.type_list_extend mt_extend (pv 4) (pa_cons (pe_callB (cr_or (cr_sortOne rfl) (cr_sortedT rfl)) (by rfl) T.z_sorted (by decide +kernel) (pa_cons (pe_scG (own := [("way", 6)]) (g := gName 6) setTO_fresh rfl sc_prefixes.nd (pi_list (pv 2)) (blkOk_by (N := n_prefixes) (sc := defScope s_prefixes) (by decide +kernel)) (fun _ _ _ _ _ => (pg_name (i := 6) sc_prefixes.nd rfl (Or.inl rfl))) (fun _ _ _ _ _ => (pe_slice (sl_tupAK (K := K) rfl) (pv 6) po_none (po_some (pv 5)))) (fun _ _ _ _ _ => mt_taddB (hu64 hr) _ _ _ _ _)) pa_nil)) pa_nil)))))
      (pss_one (ps_ret (pv 4)))))), ?_⟩
    have hf : 0 < f := by have := ok.1; omega
    have hd : 1 ≤ d ∧ d ≤ 6 := ⟨ok.2.2.1, ok.2.2.2.1⟩
    -- ways = [shape.way(index) for index in indexes]
    refine ⟨_, rfl, l, rfl, ⟨_, hl⟩, fun D hD => lc_list (K := K) (xs := idx.map V.int) (fun i H2 => ∃ ts : List Addr, Same H H2 ∧ H2 D = some (.lst (ts.map V.ref)) ∧ TupsAt H2 ts ((idx.take i).map (wayV f d.toNat)))
      ⟨[], Same.new hD, upd_same, TupsAt.nil _⟩ (fun i H2 _ ⟨ts, S, _⟩ => S.seq hl) ?_ ?_⟩
    · rintro i y H2 hi2 ⟨ts, S, hD2, ht⟩
      obtain ⟨u, hu, rfl⟩ := int_at hi2
      have hi3 : i < idx.length := (List.getElem?_eq_some_iff.mp hu).1
      refine ⟨rfl, _, rfl, p, dx, _, rfl, S _ _ hp, rfl, _, rfl, p, f, d, wd, b, s, u, rfl, ⟨dx, S _ _ hp⟩, ok, (hi u (List.mem_of_getElem? hu)).1, fun t H3 hn S3 h3 => ?_⟩
      have e3 := S3 _ _ hD2
      refine ⟨_, e3, small1000 (by rw [List.length_map, ht.1, List.length_map, List.length_take]; omega), ts ++ [t], Same.over (S.trans S3) hD, by rw [upd_same, List.map_append]; rfl, ?_⟩
      rw [take_snoc hu, List.map_append]
      exact ((ht.keep S3).app (TupsAt.one h3)).over e3
    · rintro H2 ⟨ts, S, hD2, ht⟩
      rw [List.length_map, List.take_length] at ht
      have lts : ts.length = idx.length := by rw [ht.1, List.length_map]
      refine ⟨Nat.zero_le _, fun l2 hl2 => ?_⟩
      have S2 : Same H2 (upd H2 l2 (.lst [])) := Same.new hl2
      have nl2 : H l2 = none := S.free hl2
      have ed : (d - 0).toNat = d.toNat := by omega
      refine ⟨_, rfl, p, T.C_Shape, dx, _, _, rfl, S2 _ _ (S _ _ hp), T.cl_Shape, T.na_Shape_depth, rfl, _, rfl, by decide, by decide, by omega, by omega,
        for_rangeC (n := (d - 0).toNat) (fun i σ H3 => ∃ (its : List Addr) (part : List (List Int)) (v : Option V), σ = [some (.ref p), some (.ref l), some (.ref D), none, some (.ref l2), v, none] ∧ Same H2 H3 ∧ H3 l2 = some (.lst (its.map V.ref)) ∧ TupsAt H3 its part ∧
          part ++ innerW f d.toNat idx (d.toNat - i) = innerW f d.toNat idx d.toNat ∧ part.length ≤ 64 * i) ⟨[], [], none, rfl, S2, upd_same, TupsAt.nil _, rfl, Nat.zero_le _⟩ ?_ ?_⟩
      · rintro i σ H3 hi4 ⟨its, part, v, rfl, S3, h3, hits, hpart, hplen⟩
        rw [ed] at hi4
        obtain ⟨m, hm⟩ : ∃ m, d.toNat - i = m + 1 := ⟨d.toNat - i - 1, by omega⟩
        have evl : (0 : Int) + (((d - 0).toNat : Nat) : Int) - 1 + (i : Nat) * -1 = (m : Nat) := by omega
        have hmd : m < d.toNat := by omega
        have h32 := pow_half ok.1 ok.2.2.2.2.1 hmd
        rw [evl]
        refine ⟨_, rfl, .inl ⟨rfl, _, SqL.of h3⟩, _, rfl, D, rfl, ⟨_, SqL.of (S3 _ _ hD2)⟩, fun D2 hD3 => sg_list (nw := fun D => SetTO P w D []) (r := rTAdd K P w) (K := K) (xs := ts.map V.ref) (fun i H4 => ∃ L : List (Addr × List Int), Same H3 H4 ∧ H4 D2 = some (SetTO P w D2 L) ∧
          (∀ q ∈ L, H4 q.1 = some (.tup (q.2.map V.int))) ∧ (L.map (·.2)).Nodup ∧ ∀ ns, ns ∈ L.map (·.2) ↔ ∃ u ∈ idx.take i, (wayV f d.toNat u).take m = ns)
          ⟨[], Same.new hD3, upd_same, by simp, by simp, by simp⟩ (fun i H4 _ ⟨L, S4, _⟩ => SqL.of (S4 _ _ (S3 _ _ hD2))) ?_ ?_⟩
        · rintro i2 y H4 hi5 ⟨L, S4, hL, hLt, hLn, hLm⟩
          rw [List.getElem?_map] at hi5
          obtain ⟨t, ht0, rfl⟩ : ∃ t, ts[i2]? = some t ∧ y = V.ref t := by
            cases e : ts[i2]? with
            | none => rw [e] at hi5; cases hi5
            | some t => rw [e] at hi5; exact ⟨t, rfl, (Option.some.inj hi5).symm⟩
          have hlt : i2 < idx.length := by rw [← lts]; exact (List.getElem?_eq_some_iff.mp ht0).1
          obtain ⟨u, hu⟩ : ∃ u, idx[i2]? = some u := ⟨_, List.getElem?_eq_getElem hlt⟩
          have htu : H2 t = some (.tup ((wayV f d.toNat u).map V.int)) := ht.2 i2 t _ ht0 (by rw [List.getElem?_map, hu]; rfl)
          have lw : ((wayV f d.toNat u).map V.int).length = d.toNat := by rw [List.length_map, wayV_len]
          have hcut : cutV ((wayV f d.toNat u).map V.int) none (some (m : Int)) = ((wayV f d.toNat u).take m).map V.int := by
            rw [cut_to (by omega), List.map_take]
          refine ⟨rfl, _, rfl, _, rfl, _, rfl, t, _, rfl, SqT.of (S4 _ _ (S3 _ _ htu)), fun z => absurd z (cut_part (by omega)), fun _ q hq => ?_⟩
          rw [hcut]
          have Sq : Same H4 (upd H4 q (.tup (((wayV f d.toNat u).take m).map V.int))) := Same.new hq
          have few : ((L.map (·.2)).length : Int) ≤ f ^ m := ways_few hf hLn fun ns hns => by
            obtain ⟨v, hv, rfl⟩ := (hLm ns).mp hns
            have hv2 := hi v (List.mem_of_mem_take hv)
            obtain ⟨a1, a2⟩ := div_lt hf (Nat.le_of_lt hmd) hv2.1 hv2.2
            exact ⟨_, a1, a2, wayV_take hf v (Nat.le_of_lt hmd)⟩
          rw [List.length_map] at few
          have hi0 := hi u (List.mem_of_getElem? hu)
          refine ⟨D2, q, (wayV f d.toNat u).take m, L, rfl, rfl, Sq _ _ hL, SqT.of upd_same, fun r hr => SqT.of (Sq _ _ (hLt r hr)), by omega, fun L' c1 c2 => ⟨L', ?_, upd_same, ?_, ?_, ?_⟩⟩
          · exact (Same.over (Same.trans S4 Sq) hD3)
          · intro r hr
            have hx : (upd H4 q (.tup (((wayV f d.toNat u).take m).map V.int))) r.1 = some (.tup (r.2.map V.int)) := by
              by_cases c : (wayV f d.toNat u).take m ∈ L.map (·.2)
              · rw [c1 c] at hr
                exact Sq _ _ (hLt r hr)
              · rcases List.mem_cons.mp ((c2 c).mem_iff.mp hr) with rfl | hr
                · exact upd_same
                · exact Sq _ _ (hLt r hr)
            rw [upd_ne (ne_of hx (Sq _ _ hL) (by intro z; cases z))]
            exact hx
          · by_cases c : (wayV f d.toNat u).take m ∈ L.map (·.2)
            · rw [c1 c]; exact hLn
            · exact ((c2 c).map (·.2)).nodup_iff.mpr (List.nodup_cons.mpr ⟨c, hLn⟩)
          · intro ns
            rw [take_snoc hu]
            by_cases c : (wayV f d.toNat u).take m ∈ L.map (·.2)
            · rw [c1 c, hLm]
              constructor
              · rintro ⟨v, hv, e⟩
                exact ⟨v, List.mem_append_left _ hv, e⟩
              · rintro ⟨v, hv, e⟩
                rcases List.mem_append.mp hv with hv | hv
                · exact ⟨v, hv, e⟩
                · rw [List.mem_singleton.mp hv] at e
                  rw [← e]
                  exact (hLm _).mp c
            · rw [((c2 c).map (·.2)).mem_iff, List.map_cons, List.mem_cons, hLm]
              constructor
              · rintro (e | ⟨v, hv, e⟩)
                · exact ⟨u, List.mem_append_right _ (List.mem_singleton.mpr rfl), e.symm⟩
                · exact ⟨v, List.mem_append_left _ hv, e⟩
              · rintro ⟨v, hv, e⟩
                rcases List.mem_append.mp hv with hv | hv
                · exact .inr ⟨v, hv, e⟩
                · rw [List.mem_singleton.mp hv] at e
                  exact .inl e.symm
        · rintro H4 ⟨L, S4, hL, hLt, hLn, hLm⟩
          rw [List.length_map, lts, List.take_length] at hLm
          have h4 := S4 _ _ h3
          have fin : ∀ (L' : List (Addr × List Int)) (q : Addr), L'.map (·.2) = (preC f d.toNat idx m).map (wayV f m) → (∀ r ∈ L', H4 r.1 = some (.tup (r.2.map V.int))) → H4 q = none →
            (upd H4 q (.lst (L'.map fun r => V.ref r.1))) l2 = some (.lst (its.map V.ref)) ∧ (its.map V.ref).length + (L'.map fun r => V.ref r.1).length ≤ sizeLine ∧
            ∃ (its2 : List Addr) (part2 : List (List Int)), Same H2 (upd (upd H4 q (.lst (L'.map fun r => V.ref r.1))) l2 (.lst (its.map V.ref ++ L'.map fun r => V.ref r.1))) ∧
              (upd (upd H4 q (.lst (L'.map fun r => V.ref r.1))) l2 (.lst (its.map V.ref ++ L'.map fun r => V.ref r.1))) l2 = some (.lst (its2.map V.ref)) ∧
              TupsAt (upd (upd H4 q (.lst (L'.map fun r => V.ref r.1))) l2 (.lst (its.map V.ref ++ L'.map fun r => V.ref r.1))) its2 part2 ∧
              part2 ++ innerW f d.toNat idx (d.toNat - (i + 1)) = innerW f d.toNat idx d.toNat ∧ part2.length ≤ 64 * (i + 1) := fun L' q e1 e2 hq => by
            have Sq : Same H4 (upd H4 q (.lst (L'.map fun r => V.ref r.1))) := Same.new hq
            have ll : L'.length = ((preC f d.toNat idx m).map (wayV f m)).length := by rw [← e1, List.length_map]
            have l32 := preC_len hf d.toNat idx m
            rw [List.length_map] at ll
            refine ⟨Sq _ _ h4, ?_, its ++ L'.map (·.1), part ++ (preC f d.toNat idx m).map (wayV f m), ?_, ?_, ?_, ?_, ?_⟩
            · rw [List.length_map, List.length_map, hits.1]
              exact Nat.le_of_lt (small1000 (by omega))
            · exact Same.over ((S3.trans S4).trans Sq) hl2
            · rw [upd_same, List.map_append, List.map_map]
              rfl
            · refine TupsAt.over ((hits.keep (S4.trans Sq)).app ?_) (Sq _ _ h4)
              rw [← e1]
              exact (TupsAt.of_pairs e2).keep Sq
            · rw [show d.toNat - (i + 1) = m by omega, List.append_assoc]
              rw [hm] at hpart
              exact hpart
            · rw [List.length_append, List.length_map]
              omega
          have inR : ∀ q ∈ L, ∃ u ∈ idx, (wayV f d.toNat u).take m = q.2 := fun q hq => (hLm q.2).mp (List.mem_map.mpr ⟨q, hq, rfl⟩)
          by_cases hm0 : m = 0
          · have l1 : L.length ≤ 1 := one_of_nil hLn fun q hq => by
              obtain ⟨u, _, e⟩ := inR q hq
              rw [← e, hm0, List.take_zero]
            refine .inl ⟨D2, L, rfl, hL, l1, fun q hq => ?_⟩
            have srt : (L.map (·.2)).Pairwise fun a b => TS.code f a ≤ TS.code f b := by
              match L, l1 with
              | [], _ => exact List.Pairwise.nil
              | [x], _ => exact List.pairwise_singleton _ _
            obtain ⟨c1, c2, its2, part2, g1, g2, g3, g4, g5⟩ := fin L q (ways_sorted hf (Nat.le_of_lt hmd) hi hLn srt hLm) hLt hq
            exact ⟨l2, q, _, _, rfl, rfl, c1, upd_same, c2, its2, part2, _, rfl, g1, g2, g3, g4, g5⟩
          · refine .inr ⟨D2, L, m, f, rfl, hL, fun q hq => SqT.of (hLt q hq), by omega, fun q hq => ?_, fun L' q pm nd few pw hq => ?_⟩
            · obtain ⟨u, hu, e⟩ := inR q hq
              rw [← e, wayV_take hf u (Nat.le_of_lt hmd)]
              exact ⟨wayV_len _ _ _, wayV_bd hf _ _⟩
            · have srt : (L'.map (·.2)).Pairwise fun a b => TS.code f a ≤ TS.code f b := List.pairwise_map.mpr pw
              obtain ⟨c1, c2, its2, part2, g1, g2, g3, g4, g5⟩ := fin L' q (ways_sorted hf (Nat.le_of_lt hmd) hi nd srt fun ns => ((pm.map (·.2)).mem_iff).trans (hLm ns)) (fun r hr => hLt r (pm.mem_iff.mp hr)) hq
              exact ⟨l2, q, _, _, rfl, rfl, c1, upd_same, c2, its2, part2, _, rfl, g1, g2, g3, g4, g5⟩
      · rintro σ H3 ⟨its, part, v, rfl, S3, h3, hits, hpart, _⟩
        rw [ed, Nat.sub_self] at hpart
        refine ⟨_, rfl, k l2 H3 its nl2 (S.trans S3) h3 ?_⟩
        rw [← hpart, innerW, List.append_nil]
        exact hits

theorem ok_needed (T : Txt K mg) : FnOk P w K mg base CX0 3 T.f_needed T.d_needed p_needed (fun vs H Q _ => ∃ (p l : Addr) (f d wd b s : Int) (idx : List Int), vs = [.ref p, .ref l] ∧ ShAt T.C_Shape H p f d wd b s ∧ ShOk f d wd b s ∧ SqL K H l (idx.map V.int) ∧ idx.length ≤ 64 ∧ (∀ i ∈ idx, 0 ≤ i ∧ i < f ^ d.toNat) ∧
    ∀ H', Same H H' → Q (.int (((idx.length + (innerW f d.toNat idx d.toNat).length : Nat)) : Int)) H') := by
  have G_prefixes : FnOk P w K mg base CX0 2 T.f_prefixes T.d_prefixes p_prefixes (spPre K T.C_Shape) := ok_pre T
  refine T.F_needed.ok sc_needed (fun vs H Q E h => ?_) (fun cdv A outer s H vs Q E hr h => ?_)
  · obtain ⟨p, l, f, d, wd, b, s, idx, rfl, _⟩ := h
    rfl
  · obtain ⟨p, l, f, d, wd, b, s, idx, rfl, hS, ok, hl, hlen, hi, k⟩ := h
    refine ⟨_, (pss_one (ps_ret (pe_op op_add (pe_callB call_len_seq (by rfl) T.z_len PySem.boot_len (pa_cons (pv 1) pa_nil)) (pe_callB call_len_seq (by rfl) T.z_len PySem.boot_len (pa_cons (pe_call G_prefixes (hr.mono (by decide)) rfl T.mg_prefixes T.F_prefixes.kp T.b_prefixes .nil pass0 (pa_cons (pv 0) (pa_cons (pv 1) pa_nil))) pa_nil))))), ?_⟩
    refine ⟨_, rfl, l, _, rfl, .inl hl, _, rfl, _, rfl, p, l, f, d, wd, b, s, idx, rfl, hS, ok, hl, hlen, hi, fun r H' ts hn S hr' ht => ⟨r, _, rfl, .inl (SqL.of hr'), _, _, rfl, rfl, ?_⟩⟩
    have e := k H' S
    rw [← ht.1] at e
    dsimp only
    rw [List.length_map, List.length_map, ← Int.natCast_add]
    exact e

def spLaw (K : PySem.W.Frag) : Sp := fun vs H Q _ => ∃ (a : Addr) (ns : List Int), vs = [.ref a] ∧ SqL K H a (ns.map V.int) ∧ ns.length ≤ 63 ∧ ∀ H', Q (.bl true) H'
theorem ok_law (T : Txt K mg) : FnOk P w K mg base CX0 7 T.f_law T.d_law p_law (spLaw K) := by
  have G__law_state : FnOk P w K mg base CX0 1 T.f__law_state T.d__law_state p__law_state (spState K) := ok_state T
  have G__law_draw : FnOk P w K mg base CX0 1 T.f__law_draw T.d__law_draw p__law_draw spDraw := ok_draw T
  have G__law_shape : FnOk P w K mg base CX0 6 T.f__law_shape T.d__law_shape p__law_shape (spLShape T.C_Shape) := ok_lshape T
  have G__law_leaves : FnOk P w K mg base CX0 1 T.f__law_leaves T.d__law_leaves p__law_leaves (spLeaves T.C_Shape) := ok_lleaves T
  have G_Shape_leaves : FnOk P w K mg base CX0 2 T.f_Shape_leaves T.d_Shape_leaves p_Shape_leaves (spLeaves T.C_Shape) := ok_leaves T
  have G_Shape_way : FnOk P w K mg base CX0 1 T.f_Shape_way T.d_Shape_way p_Shape_way (spWay T.C_Shape) := ok_way T
  have G_prefixes : FnOk P w K mg base CX0 2 T.f_prefixes T.d_prefixes p_prefixes (spPre K T.C_Shape) := ok_pre T
  have G__law_way := ok_lway (P := P) (w := w) (base := base) T
  have G_needed := ok_needed (P := P) (w := w) (base := base) T
  refine T.F_law.ok sc_law (fun vs H Q E h => ?_) (fun cdv A outer s H vs Q E hr h => ?_)
  · obtain ⟨a, ns, rfl, _⟩ := h
    rfl
  · obtain ⟨l0, ns, rfl, hS, hlen, k⟩ := h
    refine ⟨_, (pss_cons (ps_set (i := 1) sc_law.nd rfl (Or.inl rfl) (pe_call G__law_state (hr.mono (by decide)) rfl T.mg__law_state T.F__law_state.kp T.b__law_state .nil pass0 (pa_cons (pv 0) pa_nil)))
      (pss_cons (ps_set (i := 2) sc_law.nd rfl (Or.inl rfl) (pe_call G__law_shape (hr.mono (by decide)) rfl T.mg__law_shape T.F__law_shape.kp T.b__law_shape .nil pass0 (pa_cons (pv 1) (pa_cons pe_int pa_nil))))
      (pss_cons (ps_set (i := 3) sc_law.nd rfl (Or.inl rfl) (pe_call G__law_leaves (hr.mono (by decide)) rfl T.mg__law_leaves T.F__law_leaves.kp T.b__law_leaves .nil pass0 (pa_cons (pv 2) pa_nil)))
      (pss_cons (ps_if (pt_cmpR op_ne (pe_meth0 (pv 2) T.cl_Shape T.m_Shape_leaves G_Shape_leaves (hr.mono (by decide)) T.b_Shape_leaves .nil pass0) (pv 3) (nomark _)) (pss_one (ps_ret pe_bl)) pss_nil)
      (pss_cons (ps_set (i := 4) sc_law.nd rfl (Or.inl rfl) (pe_lst pa_nil))
      (pss_cons (ps_for PassesOwn.never rfl (pi_range1 rfl T.z_range (pa_cons (pe_call G__law_draw (hr.mono (by decide)) rfl T.mg__law_draw T.F__law_draw.kp T.b__law_draw .nil pass0 (pa_cons (pv 1) (pa_cons pe_int pa_nil))) pa_nil)) (pg_name (i := 5) sc_law.nd rfl (Or.inl rfl)) (pss_cons (ps_set (i := 6) sc_law.nd rfl (Or.inl rfl) (pe_call G__law_draw (hr.mono (by decide)) rfl T.mg__law_draw T.F__law_draw.kp T.b__law_draw .nil pass0 (pa_cons (pv 1) (pa_cons (pv 3) pa_nil))))
      (pss_one (ps_if (pt_cmpR op_notIn_seq (pv 6) (pv 4) (by rfl)) (pss_one (ps_expr (pe_bm PySem.F.plainAttrs_list PySem.F.slot_list_append PySem.F.type_list_append mt_append (pv 4) (pa_cons (pv 6) pa_nil)))) pss_nil))))
      (pss_cons (ps_set (i := 7) sc_law.nd rfl (Or.inl rfl) (pe_lst pa_nil))
      (pss_cons (ps_for PassesOwn.never rfl (pi_range1 rfl T.z_range (pa_cons (pe_fld (pv 2) rfl) pa_nil)) (pg_name (i := 8) sc_law.nd rfl (Or.inl rfl)) (pss_cons (ps_set (i := 9) sc_law.nd rfl (Or.inl rfl) (pe_lst pa_nil))
      (pss_cons (ps_for PassesOwn.never rfl (pi_list (pv 4)) (pg_name (i := 6) sc_law.nd rfl (Or.inl rfl)) (pss_cons (ps_set (i := 10) sc_law.nd rfl (Or.inl rfl) (pe_meth (pv 2) T.cl_Shape T.m_Shape_way G_Shape_way (hr.mono (by decide)) T.b_Shape_way .nil pass0 (pa_cons (pv 6) pa_nil)))
      (pss_cons (ps_if (PW.pt (pw_or (pt_not (pt_val (pe_callB call_isi (by rfl) T.z_isinstance (by decide +kernel) (pa_cons (pv 10) (pa_cons (pe_bltn (v := V.ty "tuple") (by rfl) T.z_tuple (by decide +kernel) rfl) pa_nil))))) (pw_or1 (pt_cmpR (op_neD (hr.units)) (pv 10) (pe_call G__law_way (hr.mono (by decide)) rfl T.mg__law_way T.F__law_way.kp T.b__law_way .nil pass0 (pa_cons (pv 2) (pa_cons (pv 6) pa_nil))) (nomark _))))) (pss_one (ps_ret pe_bl)) pss_nil)
      (pss_one (ps_if (pt_cmpR (op_notInD (hu65 hr)) (pe_slice (sl_tupA) (pv 10) po_none (po_some (pv 8))) (pv 9) (by rfl)) (pss_one (ps_expr (pe_bm PySem.F.plainAttrs_list PySem.F.slot_list_append PySem.F.type_list_append mt_append (pv 9) (pa_cons (pe_slice (sl_tupA) (pv 10) po_none (po_some (pv 8))) pa_nil)))) pss_nil)))))
      (pss_one (ps_set (i := 7) sc_law.nd rfl (Or.inl rfl) (pe_op op_cat (pe_callB (cr_or cr_sortFew cr_sortTA) (by rfl) T.z_sorted (by decide +kernel) (pa_cons (pv 9) pa_nil)) (pv 7)))))))
      (pss_cons (ps_if (pt_cmpR (op_neD (hr.units)) (pe_call G_prefixes (hr.mono (by decide)) rfl T.mg_prefixes T.F_prefixes.kp T.b_prefixes .nil pass0 (pa_cons (pv 2) (pa_cons (pe_callTy call_list_of (by rfl) T.z_list (by decide +kernel) (pa_cons (pv 4) pa_nil)) pa_nil))) (pv 7) (nomark _)) (pss_one (ps_ret pe_bl)) pss_nil)
      (pss_one (ps_ret (pe_cmpR op_eq (pe_call G_needed (hr.mono (by decide)) rfl T.mg_needed T.F_needed.kp T.b_needed .nil pass0 (pa_cons (pv 2) (pa_cons (pe_callTy call_list_of (by rfl) T.z_list (by decide +kernel) (pa_cons (pv 4) pa_nil)) pa_nil))) (pe_op op_add (pe_callB call_len_seq (by rfl) T.z_len PySem.boot_len (pa_cons (pv 4) pa_nil)) (pe_callB call_len_seq (by rfl) T.z_len PySem.boot_len (pa_cons (pv 7) pa_nil))) (nomark _))))))))))))), ?_⟩
    refine ⟨_, rfl, l0, ns, rfl, hS, hlen, fun a c H1 ha hc S1 SS1 => ?_⟩
    refine ⟨_, rfl, a, c, 0, rfl, S1, by decide, by decide, fun p f d wd b sn H2 hp hSh ok _ S2 K2 => ?_⟩
    refine ⟨_, rfl, p, f, d, wd, b, sn, rfl, hSh, ok, ?_⟩
    obtain ⟨dx, hpd⟩ := id hSh
    have f2 : 2 ≤ f ∧ f ≤ 4 := ⟨ok.1, ok.2.1⟩
    have d2 : 1 ≤ d ∧ d ≤ 6 := ⟨ok.2.2.1, ok.2.2.2.1⟩
    have hf : 0 < f := by omega
    have hle := ok.2.2.2.2.1
    have hpos : 0 < f ^ d.toNat := Int.pow_pos hf
    refine ⟨_, rfl, p, dx, _, rfl, hpd, rfl, p, f, d, wd, b, sn, rfl, hSh, ok, _, rfl, rfl, _, rfl, iteNS rfl ?_⟩
    refine ⟨Nat.zero_le _, fun l1 hl1 => ?_⟩
    have S2' := S2.keep (Same.new (o := .lst []) hl1)
    have l1a : l1 ≠ a := fun e => by obtain ⟨o, z⟩ := S2.some1; rw [← e, hl1] at z; cases z
    have l1c : l1 ≠ c := fun e => by obtain ⟨o, z⟩ := S2.some2; rw [← e, hl1] at z; cases z
    have pa : p ≠ a := fun e => by obtain ⟨o, z⟩ := S1.some1; rw [← e, hp] at z; cases z
    have pc : p ≠ c := fun e => by obtain ⟨o, z⟩ := S1.some2; rw [← e, hp] at z; cases z
    have pl1 : p ≠ l1 := ne_of_none hpd hl1
    refine ⟨_, rfl, a, c, 13, rfl, S2', by decide, by decide, fun r1 H3 r10 r11 S3 K3 => ⟨_, rfl, by omega, by omega, for_range (n := r1.toNat) (fun i σ H4 => ∃ (idx : List Int) (v1 v2 : Option V), σ = [some (.ref l0), some (.ref a), some (.ref p), some (.int (f ^ d.toNat)), some (.ref l1), v1, v2, none, none, none, none] ∧
      ShAt T.C_Shape H4 p f d wd b sn ∧ StA a c H4 ∧ H4 l1 = some (.lst (idx.map V.int)) ∧ l1 ≠ a ∧ l1 ≠ c ∧ idx.length ≤ i ∧ ∀ u ∈ idx, 0 ≤ u ∧ u < f ^ d.toNat) ?_ ?_ ?_⟩⟩
    · exact ⟨[], none, none, rfl, ⟨dx, K3 _ _ pa pc (by rw [upd_ne pl1]; exact hpd)⟩, S3, K3 _ _ l1a l1c upd_same, l1a, l1c, Nat.le_refl _, by simp⟩
    · rintro i σ H4 hi ⟨idx, v1, v2, rfl, ⟨dx, h4⟩, S4, hl4, _, _, hn4, hx4⟩
      refine ⟨_, rfl, _, rfl, a, c, _, rfl, S4, by omega, by omega, fun r2 H5 r20 r21 S5 K5 => ?_⟩
      have h5 := K5 _ _ pa pc h4
      have hl5 := K5 _ _ l1a l1c hl4
      have flat : (idx.map V.int).all flatV = true := by simp [List.all_eq_true, flatV]
      refine ⟨_, rfl, _, rfl, l1, _, rfl, .inl (SqL.of hl5), rfl, flat, _, rfl, ite2 (fun _ => ?_) (fun _ => ?_)⟩
      · refine ⟨_, rfl, .inl ⟨rfl, _, SqL.of hl5⟩, _, rfl, l1, _, _, rfl, rfl, hl5, small1000 (by rw [List.length_map]; omega), ?_⟩
        refine ⟨idx ++ [r2], _, _, rfl, ⟨dx, by rw [upd_ne pl1]; exact h5⟩, ?_, by rw [upd_same, List.map_append]; rfl, l1a, l1c, by rw [List.length_append, List.length_singleton]; omega, fun u hu => ?_⟩
        · obtain ⟨ns', z, q1, q2, q3, q4⟩ := S5
          exact ⟨ns', z, q1, by rw [upd_ne l1a.symm]; exact q2, by rw [upd_ne l1c.symm]; exact q3, q4⟩
        · rcases List.mem_append.mp hu with hu | hu
          · exact hx4 u hu
          · rw [List.mem_singleton.mp hu]; exact ⟨r20, r21⟩
      · exact ⟨idx, _, _, rfl, ⟨dx, h5⟩, S5, hl5, l1a, l1c, by omega, hx4⟩
    · rintro σ H4 ⟨idx, v1, v2, rfl, ⟨dx, h4⟩, S4, hl4, _, _, hn4, hx4⟩
      have hn5 : idx.length ≤ 13 := by omega
      clear S4 hn4 K3 S3 S2' hl1 hSh hpd S1 S2 K2 hp ha hc SS1
      -- due = []
      refine ⟨Nat.zero_le _, fun l2 hl2 => ?_⟩
      have Sd : Same H4 (upd H4 l2 (.lst [])) := Same.new hl2
      refine ⟨_, rfl, p, T.C_Shape, dx, _, _, rfl, Sd _ _ h4, T.cl_Shape, T.na_Shape_depth, rfl, _, rfl, by omega, by omega, for_range (n := d.toNat) (fun m σ H5 => ∃ (l3 : Addr) (ts : List Addr) (v2 v3 v4 v5 : Option V), σ = [some (.ref l0), some (.ref a), some (.ref p), some (.int (f ^ d.toNat)), some (.ref l1), v1, v2, some (.ref l3), v3, v4, v5] ∧
        Same H4 H5 ∧ H5 l3 = some (.lst (ts.map V.ref)) ∧ TupsAt H5 ts (innerW f d.toNat idx m) ∧ (innerW f d.toNat idx m).length ≤ 64 * m) ⟨l2, [], _, none, none, none, rfl, Sd, upd_same, TupsAt.nil _, Nat.zero_le _⟩ ?_ ?_⟩
      · rintro m σ H5 hm ⟨l3, ts, v2, v3, v4, v5, rfl, S5, h5, ht5, hc5⟩
        rw [show (0 : Int) + (m : Nat) = (m : Nat) from Int.zero_add _]
        refine ⟨Nat.zero_le _, fun l4 hl4' => ?_⟩
        have Sr : Same H5 (upd H5 l4 (.lst [])) := Same.new hl4'
        have S5r := S5.trans Sr
        refine ⟨_, rfl, l1, rfl, ⟨_, SqL.of (S5r _ _ hl4)⟩, for_list (K := K) (a := l1) (xs := idx.map V.int) (fun i σ H6 => ∃ (L : List (Addr × List Int)) (v2 v5 : Option V), σ = [some (.ref l0), some (.ref a), some (.ref p), some (.int (f ^ d.toNat)), some (.ref l1), v1, v2, some (.ref l3), some (.int (m : Nat)), some (.ref l4), v5] ∧
          Same H5 H6 ∧ H6 l4 = some (.lst (L.map fun q => V.ref q.1)) ∧ (∀ q ∈ L, H6 q.1 = some (.tup (q.2.map V.int))) ∧ (L.map (·.2)).Nodup ∧ L.length ≤ i ∧ ∀ ns, ns ∈ L.map (·.2) ↔ ∃ u ∈ idx.take i, (wayV f d.toNat u).take m = ns)
          ⟨[], v2, v5, rfl, Sr, upd_same, by simp, by simp, Nat.le_refl _, by simp⟩ (fun i σ H6 _ ⟨L, _, _, _, S6, _⟩ => SqL.of (S6 _ _ (S5 _ _ hl4))) ?_ ?_⟩
        · rintro i y σ H6 hi6 ⟨L, v2, v5, rfl, S6, hL, hLt, hLn, hLl, hLm⟩
          obtain ⟨u, hu, rfl⟩ := int_at hi6
          have hi3 : i < idx.length := (List.getElem?_eq_some_iff.mp hu).1
          have hxu := hx4 u (List.mem_of_getElem? hu)
          have h6 := S6 _ _ (S5 _ _ h4)
          refine ⟨_, rfl, p, dx, _, rfl, h6, rfl, _, rfl, p, f, d, wd, b, sn, u, rfl, ⟨dx, h6⟩, ok, hxu.1, fun t H7 hn7 S7 h7 => ?_⟩
          refine ⟨_, rfl, _, _, _, _, true, rfl, .ty "tuple", .base (.tup h7), kit_ty (by decide +kernel), _, rfl, iteF ?_⟩
          refine ⟨_, rfl, _, rfl, _, rfl, p, f, d, wd, b, sn, u, rfl, ⟨dx, S7 _ _ h6⟩, ok, hxu.1, hxu.2, fun t2 H8 S8 h8 => ?_⟩
          have h78 := S8 _ _ h7
          have e1 : PyData.eqv (dT (wayV f d.toNat u)) (dT (wayV f d.toNat u)) = true := by rw [dT_eqv]; exact decide_eq_true rfl
          refine ⟨_, _, dT_dp (SqT.of h78), dT_dp (SqT.of h8), dT_shaped _, dT_shaped _, _, rfl, iteNE e1 ?_⟩
          have lw : ((wayV f d.toNat u).map V.int).length = d.toNat := by rw [List.length_map, wayV_len]
          have hcut : cutV ((wayV f d.toNat u).map V.int) none (some (m : Int)) = ((wayV f d.toNat u).take m).map V.int := by
            rw [cut_to (by omega), List.map_take]
          have S68 := S7.trans S8
          refine ⟨_, rfl, _, rfl, _, rfl, t, _, rfl, SqT.of h78, fun z => absurd z (cut_part (by omega)), fun _ q hq => ?_⟩
          rw [hcut]
          have Sq : Same H8 (upd H8 q (.tup (((wayV f d.toNat u).take m).map V.int))) := Same.new hq
          have hL9 := Sq _ _ (S68 _ _ hL)
          have hT9 : TupsAt (upd H8 q (.tup (((wayV f d.toNat u).take m).map V.int))) (L.map (·.1)) (L.map (·.2)) := TupsAt.of_pairs fun r hr => Sq _ _ (S68 _ _ (hLt r hr))
          have eL : L.map (fun q => V.ref q.1) = (L.map (·.1)).map V.ref := by rw [List.map_map]; rfl
          refine ⟨_, rfl, _, _, dT_dp (SqT.of upd_same), dTs_dpL (SqL.of (hL9.trans (by rw [eL]))) hT9, dT_shaped _, dTs_shaped _, _, rfl, ?_⟩
          rw [any_dT]
          by_cases hc9 : (wayV f d.toNat u).take m ∈ L.map (·.2)
          · refine iteNS hc9 ?_
            refine ⟨L, _, _, rfl, (S6.trans S68).trans Sq, hL9, fun r hr => Sq _ _ (S68 _ _ (hLt r hr)), hLn, by omega, fun ns => ?_⟩
            rw [hLm, take_snoc hu]
            constructor
            · rintro ⟨v, hv, e⟩
              exact ⟨v, List.mem_append_left _ hv, e⟩
            · rintro ⟨v, hv, e⟩
              rcases List.mem_append.mp hv with hv | hv
              · exact ⟨v, hv, e⟩
              · rw [List.mem_singleton.mp hv] at e
                rw [← e]
                exact (hLm _).mp hc9
          · refine (by rw [decide_eq_false hc9]; exact fun h => iteT h : ∀ {A B : Prop}, A → if (!decide ((wayV f d.toNat u).take m ∈ L.map (·.2))) = true then A else B) ?_
            refine ⟨_, rfl, .inl ⟨rfl, _, SqL.of hL9⟩, _, rfl, _, rfl, _, rfl, t, _, rfl, SqT.of (Sq _ _ h78), fun z => absurd z (cut_part (by omega)), fun _ q2 hq2 => ?_⟩
            rw [hcut]
            have Sq2 := Same.new (o := .tup (((wayV f d.toNat u).take m).map V.int)) hq2
            have hL10 := Sq2 _ _ hL9
            refine ⟨l4, _, _, rfl, rfl, hL10, small1000 (by rw [List.length_map]; omega), L ++ [(q2, (wayV f d.toNat u).take m)], _, _, rfl, ?_, ?_, ?_, ?_, ?_, ?_⟩
            · exact Same.over (((S6.trans S68).trans Sq).trans Sq2) hl4'
            · rw [upd_same, List.map_append]
              rfl
            · intro r hr
              have hx : (upd (upd H8 q (.tup (((wayV f d.toNat u).take m).map V.int))) q2 (.tup (((wayV f d.toNat u).take m).map V.int))) r.1 = some (.tup (r.2.map V.int)) := by
                rcases List.mem_append.mp hr with hr | hr
                · exact Sq2 _ _ (Sq _ _ (S68 _ _ (hLt r hr)))
                · rw [List.mem_singleton.mp hr]
                  exact upd_same
              rw [upd_ne (ne_of hx hL10 (by intro z; cases z))]
              exact hx
            · rw [List.map_append]
              exact nodup_snoc hLn hc9
            · rw [List.length_append, List.length_singleton]
              omega
            · intro ns
              rw [List.map_append, List.mem_append, hLm, take_snoc hu]
              constructor
              · rintro (⟨v, hv, e⟩ | e)
                · exact ⟨v, List.mem_append_left _ hv, e⟩
                · exact ⟨u, List.mem_append_right _ (List.mem_singleton.mpr rfl), (List.mem_singleton.mp e).symm⟩
              · rintro ⟨v, hv, e⟩
                rcases List.mem_append.mp hv with hv | hv
                · exact .inl ⟨v, hv, e⟩
                · rw [List.mem_singleton.mp hv] at e
                  exact .inr (List.mem_singleton.mpr e.symm)
        · rintro σ H6 ⟨L, v2, v5, rfl, S6, hL, hLt, hLn, hLl, hLm⟩
          rw [List.length_map, List.take_length] at hLm
          rw [List.length_map] at hLl
          have h6 := S6 _ _ h5
          have hmd : m ≤ d.toNat := Nat.le_of_lt hm
          have fin : ∀ (L' : List (Addr × List Int)) (q : Addr), L'.map (·.2) = (preC f d.toNat idx m).map (wayV f m) → L'.length ≤ 13 → (∀ r ∈ L', H6 r.1 = some (.tup (r.2.map V.int))) → H6 q = none →
            (upd H6 q (.lst (L'.map fun r => V.ref r.1))) l3 = some (.lst (ts.map V.ref)) ∧ (L'.map fun r => V.ref r.1).length + (ts.map V.ref).length ≤ sizeLine ∧
            ∀ z, (upd H6 q (.lst (L'.map fun r => V.ref r.1))) z = none → ∃ (ts2 : List Addr), Same H4 (upd (upd H6 q (.lst (L'.map fun r => V.ref r.1))) z (.lst ((L'.map fun r => V.ref r.1) ++ ts.map V.ref))) ∧
              (upd (upd H6 q (.lst (L'.map fun r => V.ref r.1))) z (.lst ((L'.map fun r => V.ref r.1) ++ ts.map V.ref))) z = some (.lst (ts2.map V.ref)) ∧
              TupsAt (upd (upd H6 q (.lst (L'.map fun r => V.ref r.1))) z (.lst ((L'.map fun r => V.ref r.1) ++ ts.map V.ref))) ts2 (innerW f d.toNat idx (m + 1)) ∧ (innerW f d.toNat idx (m + 1)).length ≤ 64 * (m + 1) := fun L' q e1 le e2 hq => by
            have Sq : Same H6 (upd H6 q (.lst (L'.map fun r => V.ref r.1))) := Same.new hq
            have hts := ht5.1
            have ll : ((preC f d.toNat idx m).map (wayV f m)).length ≤ 13 := by rw [← e1, List.length_map]; exact le
            refine ⟨Sq _ _ h6, Nat.le_of_lt (small1000 (by rw [List.length_map, List.length_map]; omega)), fun z hz => ⟨L'.map (·.1) ++ ts, ?_, ?_, ?_, ?_⟩⟩
            · exact ((S5.trans S6).trans Sq).trans (Same.new hz)
            · rw [upd_same, List.map_append, List.map_map]
              rfl
            · refine TupsAt.keep (H := upd H6 q (.lst (L'.map fun r => V.ref r.1))) ?_ (Same.new hz)
              refine TupsAt.app ?_ (ht5.keep (S6.trans Sq))
              rw [← e1]
              exact (TupsAt.of_pairs e2).keep Sq
            · rw [innerW, List.length_append]
              omega
          have inR : ∀ q ∈ L, ∃ u ∈ idx, (wayV f d.toNat u).take m = q.2 := fun q hq => (hLm q.2).mp (List.mem_map.mpr ⟨q, hq, rfl⟩)
          by_cases hm0 : m = 0
          · have l1' : L.length ≤ 1 := one_of_nil hLn fun q hq => by
              obtain ⟨u, _, e⟩ := inR q hq
              rw [← e, hm0, List.take_zero]
            refine ⟨_, rfl, .inl ⟨l4, _, rfl, SqL.of hL, by rw [List.length_map]; exact l1', fun q hq => ?_⟩⟩
            have srt : (L.map (·.2)).Pairwise fun a b => TS.code f a ≤ TS.code f b := by
              match L, l1' with
              | [], _ => exact List.Pairwise.nil
              | [x], _ => exact List.pairwise_singleton _ _
            obtain ⟨c1, c2, c4⟩ := fin L q (ways_sorted hf hmd hx4 hLn srt hLm) (by omega) hLt hq
            refine ⟨_, rfl, q, l3, _, _, rfl, rfl, upd_same, c1, c2, fun z hz => ?_⟩
            obtain ⟨ts2, g1, g2, g3, g4⟩ := c4 z hz
            exact ⟨z, ts2, _, _, _, _, rfl, g1, g2, g3, g4⟩
          · refine ⟨_, rfl, .inr ⟨m, f, by omega, l4, _, rfl, SqL.of hL, by rw [List.length_map]; omega, fun x hx => ?_, fun ys q pm pw hq => ?_⟩⟩
            · obtain ⟨r, hr, rfl⟩ := List.mem_map.mp hx
              obtain ⟨u, hu, e⟩ := inR r hr
              refine ⟨r.2, ⟨r.1, rfl, SqT.of (hLt r hr)⟩, ?_, ?_⟩
              · rw [← e, wayV_take hf u hmd, wayV_len]
              · rw [← e, wayV_take hf u hmd]
                exact wayV_bd hf _ _
            · obtain ⟨L', pL, rfl⟩ := perm_of_map pm L rfl
              have hLt' : ∀ r ∈ L', H6 r.1 = some (.tup (r.2.map V.int)) := fun r hr => hLt r (pL.mem_iff.mp hr)
              have srt : (L'.map (·.2)).Pairwise fun a b => TS.code f a ≤ TS.code f b := by
                rw [List.pairwise_map] at pw ⊢
                exact List.Pairwise.imp_of_mem (fun {x y} hx hy h => h x.2 y.2 ⟨x.1, rfl, SqT.of (hLt' x hx)⟩ ⟨y.1, rfl, SqT.of (hLt' y hy)⟩) pw
              obtain ⟨c1, c2, c4⟩ := fin L' q (ways_sorted hf hmd hx4 ((pL.map (·.2)).nodup_iff.mpr hLn) srt fun ns => ((pL.map (·.2)).mem_iff).trans (hLm ns)) (by rw [pL.length_eq]; omega) hLt' hq
              refine ⟨_, rfl, q, l3, _, _, rfl, rfl, upd_same, c1, c2, fun z hz => ?_⟩
              obtain ⟨ts2, g1, g2, g3, g4⟩ := c4 z hz
              exact ⟨z, ts2, _, _, _, _, rfl, g1, g2, g3, g4⟩
      · rintro σ H5 ⟨l3, ts, v2, v3, v4, v5, rfl, S5, h5, ht5, hc5⟩
        have h5p := S5 _ _ h4
        have h5l := S5 _ _ hl4
        -- if prefixes(shape, list(indexes)) != due
        refine ⟨_, rfl, _, rfl, l1, _, rfl, .inl (SqL.of h5l), fun x hx => ?_⟩
        have Sx : Same H5 (upd H5 x (.lst (idx.map V.int))) := Same.new hx
        refine ⟨p, x, f, d, wd, b, sn, idx, rfl, ⟨dx, Sx _ _ h5p⟩, ok, SqL.of upd_same, by omega, hx4, fun r H6 ts6 hr6 S6 h6 ht6 => ?_⟩
        have e1 : PyData.eqv (.list ((innerW f d.toNat idx d.toNat).map dT)) (.list ((innerW f d.toNat idx d.toNat).map dT)) = true := by
          show PyData.eqvAll _ _ = true
          rw [dTs_eqv]
          exact decide_eq_true rfl
        refine ⟨_, rfl, _, _, dTs_dpL (SqL.of h6) ht6, dTs_dpL (SqL.of (S6 _ _ (Sx _ _ h5))) (ht5.keep (Sx.trans S6)), dTs_shaped _, dTs_shaped _, _, rfl, iteNE e1 ?_⟩
        -- return needed(shape, list(indexes)) == len(indexes) + len(due)
        have S56 := Sx.trans S6
        refine ⟨_, rfl, _, rfl, l1, _, rfl, .inl (SqL.of (S56 _ _ h5l)), fun y hy => ?_⟩
        have Sy : Same H6 (upd H6 y (.lst (idx.map V.int))) := Same.new hy
        refine ⟨p, y, f, d, wd, b, sn, idx, rfl, ⟨dx, Sy _ _ (S56 _ _ h5p)⟩, ok, SqL.of upd_same, by omega, hx4, fun H7 S7 => ?_⟩
        have S57 := (S56.trans Sy).trans S7
        refine ⟨_, rfl, l1, _, rfl, .inl (SqL.of (S57 _ _ h5l)), _, rfl, l3, _, rfl, .inl (SqL.of (S57 _ _ h5)), _, _, rfl, rfl, rfl, ?_⟩
        have e2 : (((idx.length + (innerW f d.toNat idx d.toNat).length : Nat)) : Int) = (((idx.map V.int).length : Nat) : Int) + (((ts.map V.ref).length : Nat) : Int) := by
          rw [List.length_map, List.length_map, ht5.1, Int.natCast_add]
        show Q (V.bl (decide (V.int _ = V.int _))) H7
        rw [e2, decide_eq_true rfl]
        exact k H7

end
theorem all_mk {l : PySem.W.OpenLaw} {w : World} {K : PySem.W.Frag} {h : Heap} {mg : Str → Option Value} {fa : Addr} (X : K.In h) (G : h.Ns mainGlobals mg) (hfa : mg "law" = some (.ref fa))
    {f0 : Addr} {od0 an0 : Option Addr} {sl0 : Array (Option Value)} {oc0 kV0 dc0 pm0 cd0 ct0 : Value}
    {f1 : Addr} {od1 an1 : Option Addr} {sl1 : Array (Option Value)} {oc1 kV1 dc1 pm1 cd1 ct1 : Value}
    {f2 : Addr} {od2 an2 : Option Addr} {sl2 : Array (Option Value)} {oc2 kV2 dc2 pm2 cd2 ct2 : Value}
    {f3 : Addr} {od3 an3 : Option Addr} {sl3 : Array (Option Value)} {oc3 dc3 pm3 cd3 ct3 : Value}
    {kD3 : Addr} {tD3 : Tok}
    {f4 : Addr} {od4 an4 : Option Addr} {sl4 : Array (Option Value)} {oc4 kV4 dc4 pm4 cd4 ct4 : Value}
    {f5 : Addr} {od5 an5 : Option Addr} {sl5 : Array (Option Value)} {oc5 kV5 dc5 pm5 cd5 ct5 : Value}
    {f6 : Addr} {od6 an6 : Option Addr} {sl6 : Array (Option Value)} {oc6 kV6 dc6 pm6 cd6 ct6 : Value}
    {f7 : Addr} {od7 an7 : Option Addr} {sl7 : Array (Option Value)} {oc7 kV7 dc7 pm7 cd7 ct7 : Value}
    {f8 : Addr} {od8 an8 : Option Addr} {sl8 : Array (Option Value)} {oc8 kV8 dc8 pm8 cd8 ct8 : Value}
    {f9 : Addr} {od9 an9 : Option Addr} {sl9 : Array (Option Value)} {oc9 kV9 dc9 pm9 cd9 ct9 : Value}
    {f10 : Addr} {od10 an10 : Option Addr} {sl10 : Array (Option Value)} {oc10 kV10 dc10 pm10 cd10 ct10 : Value}
    {f11 : Addr} {od11 an11 : Option Addr} {sl11 : Array (Option Value)} {oc11 kV11 dc11 pm11 cd11 ct11 : Value}
    {f12 : Addr} {od12 an12 : Option Addr} {sl12 : Array (Option Value)} {oc12 kV12 dc12 pm12 cd12 ct12 : Value}
    {f13 : Addr} {od13 an13 : Option Addr} {sl13 : Array (Option Value)} {oc13 kV13 dc13 pm13 cd13 ct13 : Value}
    {f14 : Addr} {od14 an14 : Option Addr} {sl14 : Array (Option Value)} {oc14 kV14 dc14 pm14 cd14 ct14 : Value}
    {f15 : Addr} {od15 an15 : Option Addr} {sl15 : Array (Option Value)} {oc15 kV15 dc15 pm15 cd15 ct15 : Value}
    {C_Shape : Addr}
    {t_MOST_DEPTH : Tok}
    {t_MOST_LEAVES : Tok}
    {t_MOST_BLOCKS : Tok}
    (aCShape : PySem.W.nsIn K mainGlobals "Shape" = some (some (.ref C_Shape)))
    (a0 : PySem.W.nsIn K mainGlobals "leaves_below" = some (some (.ref f0)))
    (l0 : K.lookup f0 = some ⟨oc0, od0, .func (PySem.W.fnOf "leaves_below" "leaves_below" (defArgs s_leaves_below) (defBody s_leaves_below) (defScope s_leaves_below) .none kV0 dc0 pm0 an0 cd0 ct0), sl0⟩)
    (c0 : PySem.W.codeIn K cd0 "leaves_below" = true)
    (k0 : PySem.W.keepIn K (.ref f0) = true)
    (a1 : PySem.W.nsIn K mainGlobals "is_depth" = some (some (.ref f1)))
    (l1 : K.lookup f1 = some ⟨oc1, od1, .func (PySem.W.fnOf "is_depth" "is_depth" (defArgs s_is_depth) (defBody s_is_depth) (defScope s_is_depth) .none kV1 dc1 pm1 an1 cd1 ct1), sl1⟩)
    (c1 : PySem.W.codeIn K cd1 "is_depth" = true)
    (k1 : PySem.W.keepIn K (.ref f1) = true)
    (a2 : PySem.W.nsIn K mainGlobals "out_of_range" = some (some (.ref f2)))
    (l2 : K.lookup f2 = some ⟨oc2, od2, .func (PySem.W.fnOf "out_of_range" "out_of_range" (defArgs s_out_of_range) (defBody s_out_of_range) (defScope s_out_of_range) .none kV2 dc2 pm2 an2 cd2 ct2), sl2⟩)
    (c2 : PySem.W.codeIn K cd2 "out_of_range" = true)
    (k2 : PySem.W.keepIn K (.ref f2) = true)
    (a3 : PySem.W.findIn K (.ref C_Shape) "__init__" = some (some (.ref f3)))
    (i3 : PySem.W.isFn K (.ref f3) = true)
    (l3 : K.lookup f3 = some ⟨oc3, od3, .func (PySem.W.fnOf "__init__" "Shape.__init__" (defArgs s_Shape___init__) (defBody s_Shape___init__) (defScope s_Shape___init__) .none (.ref kD3) dc3 pm3 an3 cd3 ct3), sl3⟩)
    (c3 : PySem.W.codeIn K cd3 "Shape.__init__" = true)
    (k3 : PySem.W.keepIn K (.ref f3) = true)
    (q3 : PySem.W.nsIn K kD3 "snapshots" = some (some (.int 0 tD3)))
    (a4 : PySem.W.findIn K (.ref C_Shape) "leaves" = some (some (.ref f4)))
    (i4 : PySem.W.isFn K (.ref f4) = true)
    (l4 : K.lookup f4 = some ⟨oc4, od4, .func (PySem.W.fnOf "leaves" "Shape.leaves" (defArgs s_Shape_leaves) (defBody s_Shape_leaves) (defScope s_Shape_leaves) .none kV4 dc4 pm4 an4 cd4 ct4), sl4⟩)
    (c4 : PySem.W.codeIn K cd4 "Shape.leaves" = true)
    (k4 : PySem.W.keepIn K (.ref f4) = true)
    (a5 : PySem.W.findIn K (.ref C_Shape) "way" = some (some (.ref f5)))
    (i5 : PySem.W.isFn K (.ref f5) = true)
    (l5 : K.lookup f5 = some ⟨oc5, od5, .func (PySem.W.fnOf "way" "Shape.way" (defArgs s_Shape_way) (defBody s_Shape_way) (defScope s_Shape_way) .none kV5 dc5 pm5 an5 cd5 ct5), sl5⟩)
    (c5 : PySem.W.codeIn K cd5 "Shape.way" = true)
    (k5 : PySem.W.keepIn K (.ref f5) = true)
    (a6 : PySem.W.findIn K (.ref C_Shape) "cells" = some (some (.ref f6)))
    (i6 : PySem.W.isFn K (.ref f6) = true)
    (l6 : K.lookup f6 = some ⟨oc6, od6, .func (PySem.W.fnOf "cells" "Shape.cells" (defArgs s_Shape_cells) (defBody s_Shape_cells) (defScope s_Shape_cells) .none kV6 dc6 pm6 an6 cd6 ct6), sl6⟩)
    (c6 : PySem.W.codeIn K cd6 "Shape.cells" = true)
    (k6 : PySem.W.keepIn K (.ref f6) = true)
    (a7 : PySem.W.findIn K (.ref C_Shape) "ample" = some (some (.ref f7)))
    (i7 : PySem.W.isFn K (.ref f7) = true)
    (l7 : K.lookup f7 = some ⟨oc7, od7, .func (PySem.W.fnOf "ample" "Shape.ample" (defArgs s_Shape_ample) (defBody s_Shape_ample) (defScope s_Shape_ample) .none kV7 dc7 pm7 an7 cd7 ct7), sl7⟩)
    (c7 : PySem.W.codeIn K cd7 "Shape.ample" = true)
    (k7 : PySem.W.keepIn K (.ref f7) = true)
    (a8 : PySem.W.nsIn K mainGlobals "prefixes" = some (some (.ref f8)))
    (l8 : K.lookup f8 = some ⟨oc8, od8, .func (PySem.W.fnOf "prefixes" "prefixes" (defArgs s_prefixes) (defBody s_prefixes) (defScope s_prefixes) .none kV8 dc8 pm8 an8 cd8 ct8), sl8⟩)
    (c8 : PySem.W.codeIn K cd8 "prefixes" = true)
    (k8 : PySem.W.keepIn K (.ref f8) = true)
    (a9 : PySem.W.nsIn K mainGlobals "needed" = some (some (.ref f9)))
    (l9 : K.lookup f9 = some ⟨oc9, od9, .func (PySem.W.fnOf "needed" "needed" (defArgs s_needed) (defBody s_needed) (defScope s_needed) .none kV9 dc9 pm9 an9 cd9 ct9), sl9⟩)
    (c9 : PySem.W.codeIn K cd9 "needed" = true)
    (k9 : PySem.W.keepIn K (.ref f9) = true)
    (a10 : PySem.W.nsIn K mainGlobals "_law_state" = some (some (.ref f10)))
    (l10 : K.lookup f10 = some ⟨oc10, od10, .func (PySem.W.fnOf "_law_state" "_law_state" (defArgs s__law_state) (defBody s__law_state) (defScope s__law_state) .none kV10 dc10 pm10 an10 cd10 ct10), sl10⟩)
    (c10 : PySem.W.codeIn K cd10 "_law_state" = true)
    (k10 : PySem.W.keepIn K (.ref f10) = true)
    (a11 : PySem.W.nsIn K mainGlobals "_law_draw" = some (some (.ref f11)))
    (l11 : K.lookup f11 = some ⟨oc11, od11, .func (PySem.W.fnOf "_law_draw" "_law_draw" (defArgs s__law_draw) (defBody s__law_draw) (defScope s__law_draw) .none kV11 dc11 pm11 an11 cd11 ct11), sl11⟩)
    (c11 : PySem.W.codeIn K cd11 "_law_draw" = true)
    (k11 : PySem.W.keepIn K (.ref f11) = true)
    (a12 : PySem.W.nsIn K mainGlobals "_law_shape" = some (some (.ref f12)))
    (l12 : K.lookup f12 = some ⟨oc12, od12, .func (PySem.W.fnOf "_law_shape" "_law_shape" (defArgs s__law_shape) (defBody s__law_shape) (defScope s__law_shape) .none kV12 dc12 pm12 an12 cd12 ct12), sl12⟩)
    (c12 : PySem.W.codeIn K cd12 "_law_shape" = true)
    (k12 : PySem.W.keepIn K (.ref f12) = true)
    (a13 : PySem.W.nsIn K mainGlobals "_law_leaves" = some (some (.ref f13)))
    (l13 : K.lookup f13 = some ⟨oc13, od13, .func (PySem.W.fnOf "_law_leaves" "_law_leaves" (defArgs s__law_leaves) (defBody s__law_leaves) (defScope s__law_leaves) .none kV13 dc13 pm13 an13 cd13 ct13), sl13⟩)
    (c13 : PySem.W.codeIn K cd13 "_law_leaves" = true)
    (k13 : PySem.W.keepIn K (.ref f13) = true)
    (a14 : PySem.W.nsIn K mainGlobals "_law_way" = some (some (.ref f14)))
    (l14 : K.lookup f14 = some ⟨oc14, od14, .func (PySem.W.fnOf "_law_way" "_law_way" (defArgs s__law_way) (defBody s__law_way) (defScope s__law_way) .none kV14 dc14 pm14 an14 cd14 ct14), sl14⟩)
    (c14 : PySem.W.codeIn K cd14 "_law_way" = true)
    (k14 : PySem.W.keepIn K (.ref f14) = true)
    (a15 : PySem.W.nsIn K mainGlobals "law" = some (some (.ref f15)))
    (l15 : K.lookup f15 = some ⟨oc15, od15, .func (PySem.W.fnOf "law" "law" (defArgs s_law) (defBody s_law) (defScope s_law) .none kV15 dc15 pm15 an15 cd15 ct15), sl15⟩)
    (c15 : PySem.W.codeIn K cd15 "law" = true)
    (k15 : PySem.W.keepIn K (.ref f15) = true)
    (pgShape : PySem.W.plainGet K C_Shape Str.empty = true)
    (hdShape : PySem.W.hasDictIn K C_Shape = true)
    (poShape : PySem.W.plainOver K C_Shape = true)
    (saShape : PySem.W.findIn K (.ref C_Shape) "__setattr__" = some (some (.builtin "object.__setattr__")))
    (mkShape : PySem.W.makesIn K C_Shape = true)
    (kcShape : PySem.W.keepIn K (.ref C_Shape) = true)
    (nShapefanout : PySem.W.findIn K (.ref C_Shape) "fanout" = some none)
    (nShapedepth : PySem.W.findIn K (.ref C_Shape) "depth" = some none)
    (nShapewords : PySem.W.findIn K (.ref C_Shape) "words" = some none)
    (nShapeblocks : PySem.W.findIn K (.ref C_Shape) "blocks" = some none)
    (nShapesnapshots : PySem.W.findIn K (.ref C_Shape) "snapshots" = some none)
    (gMOST_DEPTH : PySem.W.nsIn K mainGlobals "MOST_DEPTH" = some (some (.int 6 t_MOST_DEPTH)))
    (gMOST_LEAVES : PySem.W.nsIn K mainGlobals "MOST_LEAVES" = some (some (.int 64 t_MOST_LEAVES)))
    (gMOST_BLOCKS : PySem.W.nsIn K mainGlobals "MOST_BLOCKS" = some (some (.int 1000 t_MOST_BLOCKS)))
    (zrange : PySem.W.nsIn K mainGlobals "range" = some none)
    (zlen : PySem.W.nsIn K mainGlobals "len" = some none)
    (zabs : PySem.W.nsIn K mainGlobals "abs" = some none)
    (zint : PySem.W.nsIn K mainGlobals "int" = some none)
    (zsum : PySem.W.nsIn K mainGlobals "sum" = some none)
    (zmin : PySem.W.nsIn K mainGlobals "min" = some none)
    (zmax : PySem.W.nsIn K mainGlobals "max" = some none)
    (zreversed : PySem.W.nsIn K mainGlobals "reversed" = some none)
    (zsorted : PySem.W.nsIn K mainGlobals "sorted" = some none)
    (zlist : PySem.W.nsIn K mainGlobals "list" = some none)
    (ztuple : PySem.W.nsIn K mainGlobals "tuple" = some none)
    (zisinstance : PySem.W.nsIn K mainGlobals "isinstance" = some none) :
    ∃ fd : FuncData, (∀ (s : Shared) (v : Value), BindsTo s fd ⟨[v], []⟩ [("script", v)]) ∧ ∀ base : Heap, K.In base → base.Ns mainGlobals mg → FnOk l.prog w K mg base CX0 7 fa fd ["script"] (spLaw K) := by
  have e := hfa.symm.trans (PySem.W.mg_of X G a15)
  cases e
  let T : Txt K mg := {
    f_leaves_below := f0, d_leaves_below := PySem.W.fnOf "leaves_below" "leaves_below" (defArgs s_leaves_below) (defBody s_leaves_below) (defScope s_leaves_below) .none kV0 dc0 pm0 an0 cd0 ct0, F_leaves_below := fun_mk (st := s_leaves_below) l0 c0 k0, b_leaves_below := ((fun_mk (st := s_leaves_below) l0 c0 k0).binds (ps := p_leaves_below) fun _ _ _ _ _ _ us hl => match us, hl with | [_, _], _ => rfl),
    mg_leaves_below := PySem.W.mg_of X G a0,
    f_is_depth := f1, d_is_depth := PySem.W.fnOf "is_depth" "is_depth" (defArgs s_is_depth) (defBody s_is_depth) (defScope s_is_depth) .none kV1 dc1 pm1 an1 cd1 ct1, F_is_depth := fun_mk (st := s_is_depth) l1 c1 k1, b_is_depth := ((fun_mk (st := s_is_depth) l1 c1 k1).binds (ps := p_is_depth) fun _ _ _ _ _ _ us hl => match us, hl with | [_, _], _ => rfl),
    mg_is_depth := PySem.W.mg_of X G a1,
    f_out_of_range := f2, d_out_of_range := PySem.W.fnOf "out_of_range" "out_of_range" (defArgs s_out_of_range) (defBody s_out_of_range) (defScope s_out_of_range) .none kV2 dc2 pm2 an2 cd2 ct2, F_out_of_range := fun_mk (st := s_out_of_range) l2 c2 k2, b_out_of_range := ((fun_mk (st := s_out_of_range) l2 c2 k2).binds (ps := p_out_of_range) fun _ _ _ _ _ _ us hl => match us, hl with | [_], _ => rfl),
    mg_out_of_range := PySem.W.mg_of X G a2,
    f_Shape___init__ := f3, d_Shape___init__ := PySem.W.fnOf "__init__" "Shape.__init__" (defArgs s_Shape___init__) (defBody s_Shape___init__) (defScope s_Shape___init__) .none (.ref kD3) dc3 pm3 an3 cd3 ct3, F_Shape___init__ := ⟨⟨_, _, _, _, _, _, _, _, _, _, rfl, l3, c3, .inl ⟨rfl, rfl⟩, .inr ⟨_, rfl, fun q hq => by rw [List.mem_singleton.mp hq]; exact ⟨_, q3, ⟨_, rfl⟩⟩⟩⟩, k3⟩,
    kb_Shape := kbd_Shape ⟨⟨_, _, _, _, _, _, _, _, _, _, rfl, l3, c3, .inl ⟨rfl, rfl⟩, .inr ⟨_, rfl, fun q hq => by rw [List.mem_singleton.mp hq]; exact ⟨_, q3, ⟨_, rfl⟩⟩⟩⟩, k3⟩,
    f_Shape_leaves := f4, d_Shape_leaves := PySem.W.fnOf "leaves" "Shape.leaves" (defArgs s_Shape_leaves) (defBody s_Shape_leaves) (defScope s_Shape_leaves) .none kV4 dc4 pm4 an4 cd4 ct4, F_Shape_leaves := fun_mk (st := s_Shape_leaves) l4 c4 k4, b_Shape_leaves := ((fun_mk (st := s_Shape_leaves) l4 c4 k4).binds (ps := p_Shape_leaves) fun _ _ _ _ _ _ us hl => match us, hl with | [_], _ => rfl),
    f_Shape_way := f5, d_Shape_way := PySem.W.fnOf "way" "Shape.way" (defArgs s_Shape_way) (defBody s_Shape_way) (defScope s_Shape_way) .none kV5 dc5 pm5 an5 cd5 ct5, F_Shape_way := fun_mk (st := s_Shape_way) l5 c5 k5, b_Shape_way := ((fun_mk (st := s_Shape_way) l5 c5 k5).binds (ps := p_Shape_way) fun _ _ _ _ _ _ us hl => match us, hl with | [_, _], _ => rfl),
    f_Shape_cells := f6, d_Shape_cells := PySem.W.fnOf "cells" "Shape.cells" (defArgs s_Shape_cells) (defBody s_Shape_cells) (defScope s_Shape_cells) .none kV6 dc6 pm6 an6 cd6 ct6, F_Shape_cells := fun_mk (st := s_Shape_cells) l6 c6 k6, b_Shape_cells := ((fun_mk (st := s_Shape_cells) l6 c6 k6).binds (ps := p_Shape_cells) fun _ _ _ _ _ _ us hl => match us, hl with | [_], _ => rfl),
    f_Shape_ample := f7, d_Shape_ample := PySem.W.fnOf "ample" "Shape.ample" (defArgs s_Shape_ample) (defBody s_Shape_ample) (defScope s_Shape_ample) .none kV7 dc7 pm7 an7 cd7 ct7, F_Shape_ample := fun_mk (st := s_Shape_ample) l7 c7 k7, b_Shape_ample := ((fun_mk (st := s_Shape_ample) l7 c7 k7).binds (ps := p_Shape_ample) fun _ _ _ _ _ _ us hl => match us, hl with | [_], _ => rfl),
    f_prefixes := f8, d_prefixes := PySem.W.fnOf "prefixes" "prefixes" (defArgs s_prefixes) (defBody s_prefixes) (defScope s_prefixes) .none kV8 dc8 pm8 an8 cd8 ct8, F_prefixes := fun_mk (st := s_prefixes) l8 c8 k8, b_prefixes := ((fun_mk (st := s_prefixes) l8 c8 k8).binds (ps := p_prefixes) fun _ _ _ _ _ _ us hl => match us, hl with | [_, _], _ => rfl),
    mg_prefixes := PySem.W.mg_of X G a8,
    f_needed := f9, d_needed := PySem.W.fnOf "needed" "needed" (defArgs s_needed) (defBody s_needed) (defScope s_needed) .none kV9 dc9 pm9 an9 cd9 ct9, F_needed := fun_mk (st := s_needed) l9 c9 k9, b_needed := ((fun_mk (st := s_needed) l9 c9 k9).binds (ps := p_needed) fun _ _ _ _ _ _ us hl => match us, hl with | [_, _], _ => rfl),
    mg_needed := PySem.W.mg_of X G a9,
    f__law_state := f10, d__law_state := PySem.W.fnOf "_law_state" "_law_state" (defArgs s__law_state) (defBody s__law_state) (defScope s__law_state) .none kV10 dc10 pm10 an10 cd10 ct10, F__law_state := fun_mk (st := s__law_state) l10 c10 k10, b__law_state := ((fun_mk (st := s__law_state) l10 c10 k10).binds (ps := p__law_state) fun _ _ _ _ _ _ us hl => match us, hl with | [_], _ => rfl),
    mg__law_state := PySem.W.mg_of X G a10,
    f__law_draw := f11, d__law_draw := PySem.W.fnOf "_law_draw" "_law_draw" (defArgs s__law_draw) (defBody s__law_draw) (defScope s__law_draw) .none kV11 dc11 pm11 an11 cd11 ct11, F__law_draw := fun_mk (st := s__law_draw) l11 c11 k11, b__law_draw := ((fun_mk (st := s__law_draw) l11 c11 k11).binds (ps := p__law_draw) fun _ _ _ _ _ _ us hl => match us, hl with | [_, _], _ => rfl),
    mg__law_draw := PySem.W.mg_of X G a11,
    f__law_shape := f12, d__law_shape := PySem.W.fnOf "_law_shape" "_law_shape" (defArgs s__law_shape) (defBody s__law_shape) (defScope s__law_shape) .none kV12 dc12 pm12 an12 cd12 ct12, F__law_shape := fun_mk (st := s__law_shape) l12 c12 k12, b__law_shape := ((fun_mk (st := s__law_shape) l12 c12 k12).binds (ps := p__law_shape) fun _ _ _ _ _ _ us hl => match us, hl with | [_, _], _ => rfl),
    mg__law_shape := PySem.W.mg_of X G a12,
    f__law_leaves := f13, d__law_leaves := PySem.W.fnOf "_law_leaves" "_law_leaves" (defArgs s__law_leaves) (defBody s__law_leaves) (defScope s__law_leaves) .none kV13 dc13 pm13 an13 cd13 ct13, F__law_leaves := fun_mk (st := s__law_leaves) l13 c13 k13, b__law_leaves := ((fun_mk (st := s__law_leaves) l13 c13 k13).binds (ps := p__law_leaves) fun _ _ _ _ _ _ us hl => match us, hl with | [_], _ => rfl),
    mg__law_leaves := PySem.W.mg_of X G a13,
    f__law_way := f14, d__law_way := PySem.W.fnOf "_law_way" "_law_way" (defArgs s__law_way) (defBody s__law_way) (defScope s__law_way) .none kV14 dc14 pm14 an14 cd14 ct14, F__law_way := fun_mk (st := s__law_way) l14 c14 k14, b__law_way := ((fun_mk (st := s__law_way) l14 c14 k14).binds (ps := p__law_way) fun _ _ _ _ _ _ us hl => match us, hl with | [_, _], _ => rfl),
    mg__law_way := PySem.W.mg_of X G a14,
    f_law := fa, d_law := PySem.W.fnOf "law" "law" (defArgs s_law) (defBody s_law) (defScope s_law) .none kV15 dc15 pm15 an15 cd15 ct15, F_law := fun_mk (st := s_law) l15 c15 k15, b_law := ((fun_mk (st := s_law) l15 c15 k15).binds (ps := p_law) fun _ _ _ _ _ _ us hl => match us, hl with | [_], _ => rfl),
    mg_law := PySem.W.mg_of X G a15,
    C_Shape := C_Shape, mg_Shape := PySem.W.mg_of X G aCShape, cl_Shape := ⟨pgShape, hdShape, poShape, saShape⟩,
    M_Shape := ⟨mkShape, a3, i3, kcShape⟩,
    na_Shape_fanout := nShapefanout,
    na_Shape_depth := nShapedepth,
    na_Shape_words := nShapewords,
    na_Shape_blocks := nShapeblocks,
    na_Shape_snapshots := nShapesnapshots,
    m_Shape_leaves := ⟨a4, i4, k4⟩,
    m_Shape_way := ⟨a5, i5, k5⟩,
    m_Shape_cells := ⟨a6, i6, k6⟩,
    m_Shape_ample := ⟨a7, i7, k7⟩,
    t_MOST_DEPTH := t_MOST_DEPTH, mg_MOST_DEPTH := PySem.W.mg_of X G gMOST_DEPTH,
    t_MOST_LEAVES := t_MOST_LEAVES, mg_MOST_LEAVES := PySem.W.mg_of X G gMOST_LEAVES,
    t_MOST_BLOCKS := t_MOST_BLOCKS, mg_MOST_BLOCKS := PySem.W.mg_of X G gMOST_BLOCKS,
    z_range := PySem.W.mg_none_of X G zrange,
    z_len := PySem.W.mg_none_of X G zlen,
    z_abs := PySem.W.mg_none_of X G zabs,
    z_int := PySem.W.mg_none_of X G zint,
    z_sum := PySem.W.mg_none_of X G zsum,
    z_min := PySem.W.mg_none_of X G zmin,
    z_max := PySem.W.mg_none_of X G zmax,
    z_reversed := PySem.W.mg_none_of X G zreversed,
    z_sorted := PySem.W.mg_none_of X G zsorted,
    z_list := PySem.W.mg_none_of X G zlist,
    z_tuple := PySem.W.mg_none_of X G ztuple,
    z_isinstance := PySem.W.mg_none_of X G zisinstance }
  exact ⟨_, fun s v => .of_eq rfl, fun base _ _ => ok_law T⟩
theorem walk {l : PySem.W.OpenLaw} {q : Program} {loose : List Str} {XP : (Str → Option Value) → Heap → Prop} {YP : World → Heap → Prop} {d : DefRec} {K : Params → PySem.W.Frag} (hn : l.most = some 63) (hdf : d.params.defaults = [])
    (hY : ∀ (w : World) (h : Heap), YP w h → (K w.params).In h)
    (F : ∀ (w : World) (mg : Str → Option Value) (fa : Addr) (h : Heap), (K w.params).In h → h.Ns mainGlobals mg → mg d.name = some (.ref fa) →
      ∃ fd : FuncData, (∀ (s : Shared) (u : Value), BindsTo s fd ⟨[u], []⟩ [("script", u)]) ∧ ∀ base : Heap, (K w.params).In base → base.Ns mainGlobals mg → FnOk l.prog w (K w.params) mg base CX0 7 fa fd ["script"] (spLaw (K w.params))) :
    PySem.W.WalkO q loose XP YP l.row.toRowW d [] (fun f vs => PySem.call f vs) :=
  L2.walk_of (n := 63) (k := 7) (x := "script") (CX := fun _ => CX0) (sp := fun w => spLaw (K w.params)) hn (by decide) hdf ⟨rfl, by decide, by decide⟩ hY F (fun _ _ a ns hl _ hS => ⟨a, ns, rfl, hS, hl, fun _ => rfl⟩) fun _ _ _ _ _ z => z
end Cs
open PySem PySem.W PyProof.Rows in
set_option maxRecDepth 100000 in
set_option maxHeartbeats 0 in
theorem PySem.Challenge.cw_caisson_k02_ways_holds : PySem.Challenge.rw_caisson_k02_ways.Holds := by
  w_on; o_law; k_head; (case hw => w_witness2)
  k_fill
  refine Cs.walk (l := PySem.Challenge.rw_caisson_k02_ways) rfl rfl (fun w h Y => PySem.W.kIn_of Y) ?F
  case F =>
    intro w mg fa h KX G hmg
    refine' Cs.all_mk KX G hmg ?aCShape ?a0 ?l0 ?c0 ?k0 ?a1 ?l1 ?c1 ?k1 ?a2 ?l2 ?c2 ?k2 ?a3 ?i3 ?l3 ?c3 ?k3 ?q3 ?a4 ?i4 ?l4 ?c4 ?k4 ?a5 ?i5 ?l5 ?c5 ?k5 ?a6 ?i6 ?l6 ?c6 ?k6 ?a7 ?i7 ?l7 ?c7 ?k7 ?a8 ?l8 ?c8 ?k8 ?a9 ?l9 ?c9 ?k9 ?a10 ?l10 ?c10 ?k10 ?a11 ?l11 ?c11 ?k11 ?a12 ?l12 ?c12 ?k12 ?a13 ?l13 ?c13 ?k13 ?a14 ?l14 ?c14 ?k14 ?a15 ?l15 ?c15 ?k15 ?pgShape ?hdShape ?poShape ?saShape ?mkShape ?kcShape ?nShapefanout ?nShapedepth ?nShapewords ?nShapeblocks ?nShapesnapshots ?gMOST_DEPTH ?gMOST_LEAVES ?gMOST_BLOCKS ?zrange ?zlen ?zabs ?zint ?zsum ?zmin ?zmax ?zreversed ?zsorted ?zlist ?ztuple ?zisinstance
    (case aCShape => k_is)
    (case a0 => k_is)
    (case l0 => k_is)
    (case c0 => k_is)
    (case k0 => k_is)
    (case a1 => k_is)
    (case l1 => k_is)
    (case c1 => k_is)
    (case k1 => k_is)
    (case a2 => k_is)
    (case l2 => k_is)
    (case c2 => k_is)
    (case k2 => k_is)
    (case a3 => k_is)
    (case i3 => k_is)
    (case l3 => k_is)
    (case c3 => k_is)
    (case k3 => k_is)
    (case q3 => k_is)
    (case a4 => k_is)
    (case i4 => k_is)
    (case l4 => k_is)
    (case c4 => k_is)
    (case k4 => k_is)
    (case a5 => k_is)
    (case i5 => k_is)
    (case l5 => k_is)
    (case c5 => k_is)
    (case k5 => k_is)
    (case a6 => k_is)
    (case i6 => k_is)
    (case l6 => k_is)
    (case c6 => k_is)
    (case k6 => k_is)
    (case a7 => k_is)
    (case i7 => k_is)
    (case l7 => k_is)
    (case c7 => k_is)
    (case k7 => k_is)
    (case a8 => k_is)
    (case l8 => k_is)
    (case c8 => k_is)
    (case k8 => k_is)
    (case a9 => k_is)
    (case l9 => k_is)
    (case c9 => k_is)
    (case k9 => k_is)
    (case a10 => k_is)
    (case l10 => k_is)
    (case c10 => k_is)
    (case k10 => k_is)
    (case a11 => k_is)
    (case l11 => k_is)
    (case c11 => k_is)
    (case k11 => k_is)
    (case a12 => k_is)
    (case l12 => k_is)
    (case c12 => k_is)
    (case k12 => k_is)
    (case a13 => k_is)
    (case l13 => k_is)
    (case c13 => k_is)
    (case k13 => k_is)
    (case a14 => k_is)
    (case l14 => k_is)
    (case c14 => k_is)
    (case k14 => k_is)
    (case a15 => k_is)
    (case l15 => k_is)
    (case c15 => k_is)
    (case k15 => k_is)
    (case pgShape => k_is)
    (case hdShape => k_is)
    (case poShape => k_is)
    (case saShape => k_is)
    (case mkShape => k_is)
    (case kcShape => k_is)
    (case nShapefanout => k_is)
    (case nShapedepth => k_is)
    (case nShapewords => k_is)
    (case nShapeblocks => k_is)
    (case nShapesnapshots => k_is)
    (case gMOST_DEPTH => k_is)
    (case gMOST_LEAVES => k_is)
    (case gMOST_BLOCKS => k_is)
    (case zrange => k_is)
    (case zlen => k_is)
    (case zabs => k_is)
    (case zint => k_is)
    (case zsum => k_is)
    (case zmin => k_is)
    (case zmax => k_is)
    (case zreversed => k_is)
    (case zsorted => k_is)
    (case zlist => k_is)
    (case ztuple => k_is)
    (case zisinstance => k_is)
#print axioms PySem.Challenge.cw_caisson_k02_ways_holds

