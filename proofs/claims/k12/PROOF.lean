import PyProof.Rows.All
import Wide.All
import OpenK.AllK
import Wide.FinOn
import PySem.Challenge.RW_nogroupleaves_k12_whole_more_members_ear
import HandS.ForMost
import HandS.Defaults
import HandS.IsInst
import HandS.Wide
import HandS.Gcd
import HandS.FStr
import HandS.Evl
import HandS.TupAny
import HandS.WordsExc
import HandS.ExcIs
import HandS.MakeKw
import HandS.MakeKwOnly
import HandS.SlotsOwn
import HandS.HeadHook2
import KE.KCallOwn

import HandS.Walk
import HandS.Conv
import HandS.Flow
import HandS.Zip
import HandS.RevRange
import PyProof.ListIndex
import PyProof.EnumMake
import PyProof.EnumIter
import PyProof.EnumStmt
import KE.KItemsList
import PyProof.EqAt
import PyProof.TupleCall
set_option Elab.async false
set_option linter.all false
set_option maxRecDepth 100000
set_option maxHeartbeats 4000000
set_option pp.deepTerms false
set_option pp.deepTerms.threshold 6
set_option pp.maxSteps 600

namespace NG
section
open PySem PySem.W PyProof.Rows
set_option maxHeartbeats 0
open_top hd for PySem.Challenge.rw_nogroupleaves_k12_whole_more_members_ear
end
end NG
namespace NG
open PySem PySem.Spec PyProof.Rows L2
def topS (i : Nat) : Stmt := PySem.Challenge.pw_nogroupleaves_k12_whole_more_members_ear.main.body.getD i (.Pass ⟨0, 0, 0, 0⟩)
abbrev s_as_tuples : Stmt := topS 1
abbrev N_as_tuples : List Str := ["part", "item"]
theorem sc_as_tuples : FnScope N_as_tuples ["part"] (defScope s_as_tuples) := ⟨rfl, rfl, rfl, by decide +kernel, rfl, by decide +kernel, by decide +kernel⟩
abbrev s_ascending_tuples : Stmt := topS 2
abbrev N_ascending_tuples : List Str := ["count", "found", "index", "behind"]
theorem sc_ascending_tuples : FnScope N_ascending_tuples ["count"] (defScope s_ascending_tuples) := ⟨rfl, rfl, rfl, by decide +kernel, rfl, by decide +kernel, by decide +kernel⟩
abbrev s_earned : Stmt := topS 4
abbrev N_earned : List Str := ["house", "group", "plan", "runs", "filled", "stock"]
theorem sc_earned : FnScope N_earned ["house", "group", "plan"] (defScope s_earned) := ⟨rfl, rfl, rfl, by decide +kernel, rfl, by decide +kernel, by decide +kernel⟩
abbrev s_best_plan : Stmt := topS 5
abbrev N_best_plan : List Str := ["house", "group", "filled", "fillings", "best", "runs", "stock", "cost", "taken", "pay"]
theorem sc_best_plan : FnScope N_best_plan ["house", "group"] (defScope s_best_plan) := ⟨rfl, rfl, rfl, by decide +kernel, rfl, by decide +kernel, by decide +kernel⟩
abbrev s__are_runs : Stmt := topS 6
abbrev N__are_runs : List Str := ["house", "runs", "many", "recipe"]
theorem sc__are_runs : FnScope N__are_runs ["house", "runs"] (defScope s__are_runs) := ⟨rfl, rfl, rfl, by decide +kernel, rfl, by decide +kernel, by decide +kernel⟩
abbrev s__are_filled : Stmt := topS 7
abbrev N__are_filled : List Str := ["house", "filled", "ascending", "at"]
theorem sc__are_filled : FnScope N__are_filled ["house", "filled"] (defScope s__are_filled) := ⟨rfl, rfl, rfl, by decide +kernel, rfl, by decide +kernel, by decide +kernel⟩
abbrev s__all_runs : Stmt := topS 8
abbrev N__all_runs : List Str := ["house", "found", "recipe", "runs", "many"]
theorem sc__all_runs : FnScope N__all_runs ["house"] (defScope s__all_runs) := ⟨rfl, rfl, rfl, by decide +kernel, rfl, by decide +kernel, by decide +kernel⟩
abbrev s__all_filled : Stmt := topS 9
abbrev N__all_filled : List Str := ["house"]
theorem sc__all_filled : FnScope N__all_filled ["house"] (defScope s__all_filled) := ⟨rfl, rfl, rfl, by decide +kernel, rfl, by decide +kernel, by decide +kernel⟩
abbrev s__stock_after : Stmt := topS 10
abbrev N__stock_after : List Str := ["house", "group", "runs", "stock", "member", "recipe", "many", "_"]
theorem sc__stock_after : FnScope N__stock_after ["house", "group", "runs"] (defScope s__stock_after) := ⟨rfl, rfl, rfl, by decide +kernel, rfl, by decide +kernel, by decide +kernel⟩
abbrev s__has_needed : Stmt := topS 11
abbrev N__has_needed : List Str := ["group", "recipe", "member"]
theorem sc__has_needed : FnScope N__has_needed ["group", "recipe"] (defScope s__has_needed) := ⟨rfl, rfl, rfl, by decide +kernel, rfl, by decide +kernel, by decide +kernel⟩
abbrev s__has_all : Stmt := topS 12
abbrev N__has_all : List Str := ["stock", "amounts", "good", "number"]
theorem sc__has_all : FnScope N__has_all ["stock", "amounts"] (defScope s__has_all) := ⟨rfl, rfl, rfl, by decide +kernel, rfl, by decide +kernel, by decide +kernel⟩
abbrev s__put : Stmt := topS 13
abbrev N__put : List Str := ["stock", "amounts", "good", "number"]
theorem sc__put : FnScope N__put ["stock", "amounts"] (defScope s__put) := ⟨rfl, rfl, rfl, by decide +kernel, rfl, by decide +kernel, by decide +kernel⟩
abbrev s__take : Stmt := topS 14
abbrev N__take : List Str := ["stock", "amounts", "good", "number"]
theorem sc__take : FnScope N__take ["stock", "amounts"] (defScope s__take) := ⟨rfl, rfl, rfl, by decide +kernel, rfl, by decide +kernel, by decide +kernel⟩
abbrev s__taken : Stmt := topS 15
abbrev N__taken : List Str := ["house", "filled", "taken", "order"]
theorem sc__taken : FnScope N__taken ["house", "filled"] (defScope s__taken) := ⟨rfl, rfl, rfl, by decide +kernel, rfl, by decide +kernel, by decide +kernel⟩
abbrev s__pay : Stmt := topS 16
abbrev N__pay : List Str := ["house", "filled", "order"]
theorem sc__pay : FnScope N__pay ["house", "filled"] (defScope s__pay) := ⟨rfl, rfl, rfl, by decide +kernel, rfl, by decide +kernel, by decide +kernel⟩
abbrev s__cost : Stmt := topS 17
abbrev N__cost : List Str := ["house", "runs", "many", "recipe"]
theorem sc__cost : FnScope N__cost ["house", "runs"] (defScope s__cost) := ⟨rfl, rfl, rfl, by decide +kernel, rfl, by decide +kernel, by decide +kernel⟩
abbrev s_House___init__ : Stmt := inClass (topS 19) 0
abbrev N_House___init__ : List Str := ["self", "goods", "members", "talks", "recipes", "orders"]
theorem sc_House___init__ : FnScope N_House___init__ ["self", "goods", "members", "talks", "recipes", "orders"] (defScope s_House___init__) := ⟨rfl, rfl, rfl, by decide +kernel, rfl, by decide +kernel, by decide +kernel⟩
abbrev s_House___eq__ : Stmt := inClass (topS 19) 1
abbrev N_House___eq__ : List Str := ["self", "other"]
theorem sc_House___eq__ : FnScope N_House___eq__ ["self", "other"] (defScope s_House___eq__) := ⟨rfl, rfl, rfl, by decide +kernel, rfl, by decide +kernel, by decide +kernel⟩
abbrev s__law_pool : Stmt := topS 21
abbrev N__law_pool : List Str := ["script", "budget"]
theorem sc__law_pool : FnScope N__law_pool ["script", "budget"] (defScope s__law_pool) := ⟨rfl, rfl, rfl, by decide +kernel, rfl, by decide +kernel, by decide +kernel⟩
abbrev s__law_draw : Stmt := topS 22
abbrev N__law_draw : List Str := ["pool", "size", "cell", "value"]
theorem sc__law_draw : FnScope N__law_draw ["pool", "size"] (defScope s__law_draw) := ⟨rfl, rfl, rfl, by decide +kernel, rfl, by decide +kernel, by decide +kernel⟩
abbrev s__law_same : Stmt := topS 23
abbrev N__law_same : List Str := ["actual", "due", "k"]
theorem sc__law_same : FnScope N__law_same ["actual", "due"] (defScope s__law_same) := ⟨rfl, rfl, rfl, by decide +kernel, rfl, by decide +kernel, by decide +kernel⟩
abbrev s__law_name : Stmt := topS 24
abbrev N__law_name : List Str := ["pool", "name", "k"]
theorem sc__law_name : FnScope N__law_name ["pool"] (defScope s__law_name) := ⟨rfl, rfl, rfl, by decide +kernel, rfl, by decide +kernel, by decide +kernel⟩
abbrev s__law_unlike : Stmt := topS 25
abbrev N__law_unlike : List Str := ["pool", "count", "names", "k", "name", "other"]
theorem sc__law_unlike : FnScope N__law_unlike ["pool", "count"] (defScope s__law_unlike) := ⟨rfl, rfl, rfl, by decide +kernel, rfl, by decide +kernel, by decide +kernel⟩
abbrev s__law_chosen : Stmt := topS 26
abbrev N__law_chosen : List Str := ["pool", "count", "most", "left", "found", "k"]
theorem sc__law_chosen : FnScope N__law_chosen ["pool", "count", "most"] (defScope s__law_chosen) := ⟨rfl, rfl, rfl, by decide +kernel, rfl, by decide +kernel, by decide +kernel⟩
abbrev s__law_pairs : Stmt := topS 27
abbrev N__law_pairs : List Str := ["pool", "count", "most", "large", "index"]
theorem sc__law_pairs : FnScope N__law_pairs ["pool", "count", "most", "large"] (defScope s__law_pairs) := ⟨rfl, rfl, rfl, by decide +kernel, rfl, by decide +kernel, by decide +kernel⟩
abbrev s__law_house : Stmt := topS 28
abbrev N__law_house : List Str := ["pool", "most", "large", "goods", "count", "small", "name", "members", "talks", "left", "one", "k", "recipes", "needs", "takes", "gives", "orders", "other"]
theorem sc__law_house : FnScope N__law_house ["pool", "most", "large"] (defScope s__law_house) := ⟨rfl, rfl, rfl, by decide +kernel, rfl, by decide +kernel, by decide +kernel⟩
abbrev s__law_made_house : Stmt := topS 29
abbrev N__law_made_house : List Str := ["house"]
theorem sc__law_made_house : FnScope N__law_made_house ["house"] (defScope s__law_made_house) := ⟨rfl, rfl, rfl, by decide +kernel, rfl, by decide +kernel, by decide +kernel⟩
abbrev s_law : Stmt := topS 30
abbrev N_law : List Str := ["script", "pool", "house", "made", "group", "less", "amount", "plan", "most", "unused", "name", "holdings", "richer", "members", "own", "more", "index", "number", "order"]
theorem sc_law : FnScope N_law ["script"] (defScope s_law) := ⟨rfl, rfl, rfl, by decide +kernel, rfl, by decide +kernel, by decide +kernel⟩
/-! ### callees by name -/
/-- the built-in names that the module leaves alone -/
structure MB (mg : Str → Option Value) : Prop where
  len : mg "len" = none
  list : mg "list" = none
  tuple : mg "tuple" = none
  int : mg "int" = none
  str : mg "str" = none
  bool : mg "bool" = none
  abs : mg "abs" = none
  range : mg "range" = none
  isinstance : mg "isinstance" = none
  min : mg "min" = none
  all : mg "all" = none
  ValueError : mg "ValueError" = none
  zip : mg "zip" = none
  sum : mg "sum" = none
  reversed : mg "reversed" = none
  enumerate : mg "enumerate" = none
abbrev FnP (K : PySem.W.Frag) (x : Str) (st : Stmt) (f : Addr) (fd : FuncData) : Prop := FunD K x x (defArgs st) (defBody st) (defScope st) [] [] f fd
structure Callee (P : Program) (w : World) (K : PySem.W.Frag) (mg : Str → Option Value) (base : Heap) (CX : CXT) (x : Str) (ps : List Str) (k : Nat) (sp : Sp) : Prop where
  ex : ∃ f fd, mg x = some (.ref f) ∧ PySem.W.keepIn K (.ref f) = true ∧ Binds K fd ps [] ∧ FnOk P w K mg base CX k f fd ps sp
section
variable {X : Cx} {CX : CXT} {k : Nat} {ps : List Str} {sp : Sp} {E : XK} {x : Str} {p pos : Pos} {e : Expr} {es : List Expr} {t : TA}
theorem pe_callX (C : Callee X.prog X.w X.K X.mg X.base CX x ps k sp) (hr : Room k X.A) (hg : Gl X x) (hx : Passes CX X E) (ha : PA X (e :: es) t) (hdb : (x == ("__debug__" : Str)) = false := by decide)
    (he : starEach (e :: es) X.env = (false, eval e X.env) :: starEach es X.env := by rfl) (hpl : (backTo pos (starEach es X.env)).any (·.1) = false := by rfl) :
    PE X (.Call (.Name x p) (e :: es) [] pos) (tCall sp [] E t) := by
  obtain ⟨f, fd, h1, h2, h3, h4⟩ := C.ex
  exact pe_call h4 hr hg h1 h2 h3 .nil hx ha hdb he hpl
/-- f(e, ..), f lets nothing out -/
theorem pe_callC (C : Callee X.prog X.w X.K X.mg X.base CX0 x ps k sp) (hr : Room k X.A) (hg : Gl X x) (ha : PA X (e :: es) t) (hdb : (x == ("__debug__" : Str)) = false := by decide)
    (he : starEach (e :: es) X.env = (false, eval e X.env) :: starEach es X.env := by rfl) (hpl : (backTo pos (starEach es X.env)).any (·.1) = false := by rfl) :
    PE X (.Call (.Name x p) (e :: es) [] pos) (tCall sp [] E0 t) := pe_callX C hr hg pass0 ha hdb he hpl
end
/-! ### heaps -/
theorem same_upd {H : Hp} {p : Addr} {o : HO} (h : H p = none) : Same H (upd H p o) := fun b x e => by
  rw [upd_ne (ne_of_none e h)]
  exact e
theorem same_seqT {K : PySem.W.Frag} {H H' : Hp} {a : Addr} {xs : List V} (e : Same H H') (h : SqT K H a xs) : SqT K H' a xs := by
  rcases h with (h | ⟨o, h⟩) | h
  · exact .inl (.inl (e _ _ h))
  · exact .inl (.inr ⟨o, e _ _ h⟩)
  · exact .inr h
/-- all but p stands -/
def Kp (p : Addr) (H H' : Hp) : Prop := ∀ b o, b ≠ p → H b = some o → H' b = some o
theorem Kp.refl {p : Addr} {H : Hp} : Kp p H H := fun _ _ _ e => e
theorem Kp.trans {p : Addr} {H H1 H2 : Hp} (a : Kp p H H1) (b : Kp p H1 H2) : Kp p H H2 := fun c o n e => b c o n (a c o n e)
theorem Kp.same {p : Addr} {H H1 : Hp} (a : Same H H1) : Kp p H H1 := fun c o _ e => a c o e
theorem Kp.upd {p : Addr} {H : Hp} {o : HO} : Kp p H (upd H p o) := fun c u n e => by
  rw [upd_ne n]
  exact e
/-! ### the pool of draws -/
/-- the pool at p: a copy of the script at s, and five ints -/
def poolO (s : Addr) (i cur seed run bud : Int) : HO := .lst [.ref s, .int i, .int cur, .int seed, .int run, .int bud]
structure PoolIs (H : Hp) (p s : Addr) (ns : List Int) (i cur seed run bud : Int) : Prop where
  at_ : H p = some (poolO s i cur seed run bud)
  sc : H s = some (.lst (ns.map V.int))
  ne : s ≠ p
  i0 : 0 ≤ i
  s0 : 0 ≤ seed
  s1 : seed < 2147483647
/-- the pool at p, its numbers at s -/
def PoolS (H : Hp) (p s : Addr) : Prop := ∃ ns i cur seed run bud, PoolIs H p s ns i cur seed run bud
theorem PoolS.there {H : Hp} {p s : Addr} (h : PoolS H p s) : ∃ i cur seed run bud, H p = some (poolO s i cur seed run bud) := by
  obtain ⟨ns, i, cur, seed, run, bud, h⟩ := h
  exact ⟨i, cur, seed, run, bud, h.at_⟩
theorem PoolS.same {H H' : Hp} {p s : Addr} (h : PoolS H p s) (e : Same H H') : PoolS H' p s := by
  obtain ⟨ns, i, cur, seed, run, bud, h⟩ := h
  exact ⟨ns, i, cur, seed, run, bud, e _ _ h.at_, e _ _ h.sc, h.ne, h.i0, h.s0, h.s1⟩
theorem PoolS.ne {H : Hp} {p s q : Addr} (h : PoolS H p s) (hq : H q = none) : q ≠ p := fun z => by
  obtain ⟨_, _, _, _, _, e⟩ := h.there
  rw [z, e] at hq
  cases hq
theorem PoolS.neS {H : Hp} {p s q : Addr} (h : PoolS H p s) (hq : H q = none) : q ≠ s := fun z => by
  obtain ⟨ns, i, cur, seed, run, bud, h⟩ := h
  rw [z, h.sc] at hq
  cases hq
/-- another cell is written -/
theorem PoolS.own {H : Hp} {p s q : Addr} {o : HO} (h : PoolS H p s) (n1 : q ≠ p) (n2 : q ≠ s) : PoolS (upd H q o) p s := by
  obtain ⟨ns, i, cur, seed, run, bud, h⟩ := h
  exact ⟨ns, i, cur, seed, run, bud, (upd_ne (Ne.symm n1)).trans h.at_, (upd_ne (Ne.symm n2)).trans h.sc, h.ne, h.i0, h.s0, h.s1⟩
/-- what a def that draws leaves: the pool has moved, all else stands -/
structure Mv (p s : Addr) (H H' : Hp) : Prop where
  kp : Kp p H H'
  pool : PoolS H' p s
theorem Mv.refl {p s : Addr} {H : Hp} (h : PoolS H p s) : Mv p s H H := ⟨Kp.refl, h⟩
theorem Mv.put {p s : Addr} {H H' : Hp} {o : HO} (m : Mv p s H H') (h : PoolS (upd H' p o) p s) : Mv p s H (upd H' p o) := ⟨m.kp.trans Kp.upd, h⟩
theorem Mv.new {p s q : Addr} {H H' : Hp} {o : HO} (m : Mv p s H H') (h : H' q = none) : Mv p s H (upd H' q o) := ⟨m.kp.trans (Kp.same (same_upd h)), m.pool.same (same_upd h)⟩
theorem Mv.trans {p s : Addr} {H H1 H2 : Hp} (a : Mv p s H H1) (b : Mv p s H1 H2) : Mv p s H H2 := ⟨a.kp.trans b.kp, b.pool⟩
theorem Mv.same {p s : Addr} {H H1 H2 : Hp} (a : Mv p s H H1) (b : Same H1 H2) : Mv p s H H2 := ⟨a.kp.trans (Kp.same b), a.pool.same b⟩
/-- a cell of one's own is written -/
theorem Mv.own {p s q : Addr} {H H' : Hp} {o : HO} (m : Mv p s H H') (hP : PoolS H p s) (h0 : H q = none) : Mv p s H (upd H' q o) :=
  ⟨fun b u n e => by
    rw [upd_ne (ne_of_none e h0)]
    exact m.kp b u n e, m.pool.own (hP.ne h0) (hP.neS h0)⟩
theorem PoolIs.put {H : Hp} {p s : Addr} {ns : List Int} {i cur seed run bud : Int} (h : PoolIs H p s ns i cur seed run bud) {i' cur' seed' run' bud' : Int} (a : 0 ≤ i') (b : 0 ≤ seed') (c : seed' < 2147483647) :
    PoolIs (upd H p (poolO s i' cur' seed' run' bud')) p s ns i' cur' seed' run' bud' :=
  ⟨upd_same, by rw [upd_ne h.ne]; exact h.sc, h.ne, a, b, c⟩
/-- the drawn number is any one below the size; the pool has moved, all else stands -/
def spDraw : Sp := fun vs H Q _ => ∃ (p : Addr) (n : Int), vs = [.ref p, .int n] ∧ 0 < n ∧ n < 1073741824 ∧ ∃ s, PoolS H p s ∧ ∀ (v : Int) (o : HO), 0 ≤ v → v < n → PoolS (upd H p o) p s → Q (.int v) (upd H p o)
def spPool (K : PySem.W.Frag) : Sp := fun vs H Q _ => ∃ (a : Addr) (ns : List Int) (b : Int), vs = [.ref a, .int b] ∧ SqL K H a (ns.map V.int) ∧ ∀ (p : Addr) (H' : Hp), H p = none → Same H H' → ∀ s, H s = none → PoolS H' p s → Q (.ref p) H'
theorem lt1000 {n : Nat} (h : Nat.ble (n + 1) 1000 = true) : n < 1000 := Nat.le_of_ble_eq_true h

/-! ### short readings -/
/-- small side conditions -/
local macro_rules | `(tactic| walk_at "sd") => `(tactic| (first
  | omega
  | assumption
  | rfl
  | decide
  | exact .inr ⟨by decide, by decide⟩
  | exact .inl ⟨by decide, by decide⟩
  | exact ⟨by first | assumption | decide | omega, by first | assumption | decide | omega⟩
  | exact ⟨by decide, by decide, by decide⟩))
/-- reads on while what is asked is plain: a slot, two ints, an item at a written place, a test's answer -/
local macro_rules | `(tactic| walk_at "rd") => `(tactic| repeat (first
  | refine ⟨_, rfl, ?_⟩
  | refine ⟨_, _, rfl, rfl, ?_⟩
  | refine ⟨_, _, _, _, rfl, rfl, (by first | assumption | exact upd_same | exact .inl (.inl upd_same)), (by rfl), ?_⟩
  | refine ⟨_, _, rfl, .inl (by first | assumption | exact .inl (.inl upd_same)), ?_⟩
  | refine ⟨_, _, rfl, .inr (by first | assumption | exact .inl (.inl upd_same)), ?_⟩
  | refine ⟨_, _, _, _, _, rfl, (by first | assumption | exact upd_same), (by assumption), (by assumption), (by rfl), ?_⟩
  | refine ⟨_, _, _, _, rfl, (by first | assumption | exact upd_same), (by assumption), (by assumption), lt1000 (by rfl), ?_⟩
  | refine .inl ⟨_, rfl, ?_⟩
  | refine And.intro (by walk_at "sd") ?_))
/-- isinstance of a value whose type is known, by a built-in class -/
local macro_rules | `(tactic| walk_at "isi") => `(tactic| first
  | refine ⟨_, _, _, _, true, rfl, .ty _, (by assumption), kit_ty (by decide +kernel), ?_⟩
  | refine ⟨_, _, _, _, false, rfl, .ty _, (by assumption), kit_ty (by decide +kernel), ?_⟩)
/-- as rd; and where a test's answer is known -/
local macro_rules | `(tactic| walk_at "go") => `(tactic| repeat (first
  | refine ⟨_, rfl, ?_⟩
  | refine ⟨_, _, rfl, rfl, ?_⟩
  | refine ⟨_, _, _, _, rfl, rfl, (by first | assumption | exact upd_same | exact .inl (.inl upd_same)), (by rfl), ?_⟩
  | refine ⟨_, _, rfl, .inl (by first | assumption | exact .inl (.inl upd_same)), ?_⟩
  | refine ⟨_, _, rfl, .inr (by first | assumption | exact .inl (.inl upd_same)), ?_⟩
  | refine ⟨_, _, _, _, _, rfl, (by first | assumption | exact upd_same), (by assumption), (by assumption), (by rfl), ?_⟩
  | refine ⟨_, _, _, _, rfl, (by first | assumption | exact upd_same), (by assumption), (by assumption), lt1000 (by rfl), ?_⟩
  | refine .inl ⟨_, rfl, ?_⟩
  | walk_at "isi"
  | refine iteT ?_
  | refine iteF ?_
  | refine And.intro (by walk_at "sd") ?_))

section
variable {P : Program} {w : World} {K : PySem.W.Frag} {mg : Str → Option Value} {base : Heap} {f : Addr} {fd : FuncData}
theorem ok__law_pool (M : MB mg) (F : FnP K "_law_pool" s__law_pool f fd) : FnOk P w K mg base CX0 1 f fd ["script", "budget"] (spPool K) := by
  refine F.ok sc__law_pool (fun vs H Q E h => ?_) (fun cdv A outer s H vs Q E hr h => ⟨_, PSs.nox (pss_one (ps_ret (pe_lst (pa_cons (pe_callTy call_list_of (by rfl) M.list (by decide +kernel) (pa_cons (pv 0) pa_nil)) (pa_cons pe_int (pa_cons pe_int (pa_cons pe_int (pa_cons pe_int (pa_cons (pv 1) pa_nil))))))))), ?_⟩)
  · obtain ⟨a, ns, b, rfl, _⟩ := h
    rfl
  · obtain ⟨a, ns, b, rfl, hS, q⟩ := h
    refine ⟨_, rfl, a, _, rfl, .inl hS, fun l hl => ?_⟩
    refine ⟨_, rfl, (by show 6 ≤ sizeLine; decide), fun p hp => ?_⟩
    have hpl : p ≠ l := fun e => by
      rw [e, upd_same] at hp
      cases hp
    have hp0 : H p = none := by rw [upd_ne hpl] at hp; exact hp
    refine q p _ hp0 ((same_upd hl).trans (same_upd hp)) l hl ⟨ns, 0, 0, 1, 0, b, upd_same, ?_, hpl.symm, by decide, by decide, by decide⟩
    rw [upd_ne hpl.symm, upd_same]
/-- an item of the pool, by its written place -/
theorem pool_ix {H : Hp} {p s : Addr} {ns : List Int} {i cur seed run bud : Int} (h : PoolIs H p s ns i cur seed run bud) : SqL K H p [.ref s, .int i, .int cur, .int seed, .int run, .int bud] := .inl (.inl h.at_)
theorem ok__law_draw (M : MB mg) (F : FnP K "_law_draw" s__law_draw f fd) : FnOk P w K mg base CX0 1 f fd ["pool", "size"] spDraw := by
  refine F.ok sc__law_draw (fun vs H Q E h => ?_) (fun cdv A outer s H vs Q E hr h => ⟨_, PSs.nox (Evl.pss_cut (ps_if (PW.pt (pw_and (pt_cmpR op_le (pe_ix ix_list (pv 0) pe_int (fun _ _ => rfl)) pe_int (nomark _)) (pw_and (pt_cmpR op_le (pe_ix ix_list (pv 0) pe_int (fun _ _ => rfl)) pe_int (nomark _)) (pw_and1 (pt_cmpR op_lt (pe_ix ix_list (pv 0) pe_int (fun _ _ => rfl)) (pe_callB call_len_seq (by rfl) M.len (by decide +kernel) (pa_cons (pe_ix ix_list (pv 0) pe_int (fun _ _ => rfl)) pa_nil)) (nomark _)))))) (pss_cons (ps_set (i := 2) sc__law_draw.nd rfl (.inl rfl) (pe_ix ix_list (pe_ix ix_list (pv 0) pe_int (fun _ _ => rfl)) (pe_ix ix_list (pv 0) pe_int (fun _ _ => rfl)) (fun _ _ => rfl)))
  (pss_cons (ps_asg (pe_op op_add (pe_ix ix_list (pv 0) pe_int (fun _ _ => rfl)) pe_int) (pg_sub (pv 0) pe_int set_list))
  (pss_cons (ps_asg (pe_op op_mod (pe_callTy call_int1 (by rfl) M.int (by decide +kernel) (pa_cons (pe_op op_add (pe_op op_mul (pe_ix ix_list (pv 0) pe_int (fun _ _ => rfl)) pe_int) (pv 2)) pa_nil)) pe_int) (pg_sub (pv 0) pe_int set_list))
  (pss_cons (ps_asg pe_int (pg_sub (pv 0) pe_int set_list))
  (pss_one (ps_if (pt_cmpR op_ge (pv 2) (pe_op op_pow pe_int pe_int) (nomark _)) (pss_one (ps_asg (pv 2) (pg_sub (pv 0) pe_int set_list))) pss_nil)))))) pss_nil)
  (pss_cons (ps_if (pt_cmpR op_gt (pe_ix ix_list (pv 0) pe_int (fun _ _ => rfl)) pe_int (nomark _)) (pss_cons (ps_set (i := 3) sc__law_draw.nd rfl (.inl rfl) (pe_op op_mod (pe_callTy call_int1 (by rfl) M.int (by decide +kernel) (pa_cons (pe_ix ix_list (pv 0) pe_int (fun _ _ => rfl)) pa_nil)) (pv 1)))
  (pss_cons (ps_asg (pe_op op_fdiv (pe_ix ix_list (pv 0) pe_int (fun _ _ => rfl)) (pv 1)) (pg_sub (pv 0) pe_int set_list))
  (pss_cons (ps_asg pe_int (pg_sub (pv 0) pe_int set_list))
  (pss_one (ps_ret (pv 3)))))) pss_nil)
  (pss_cons (ps_asg (pe_op op_sub (pe_ix ix_list (pv 0) pe_int (fun _ _ => rfl)) pe_int) (pg_sub (pv 0) pe_int set_list))
  (pss_cons (ps_asg (pe_op op_mod (pe_callTy call_int1 (by rfl) M.int (by decide +kernel) (pa_cons (pe_op op_add (pe_op op_mul (pe_ix ix_list (pv 0) pe_int (fun _ _ => rfl)) pe_int) pe_int) pa_nil)) pe_int) (pg_sub (pv 0) pe_int set_list))
  (pss_one (ps_ret (pe_op op_mod (pe_op op_mod (pe_callTy call_int1 (by rfl) M.int (by decide +kernel) (pa_cons (pe_op op_add (pe_op op_mul (pe_ix ix_list (pv 0) pe_int (fun _ _ => rfl)) pe_int) pe_int) pa_nil)) pe_int) (pv 1)))))))), ?_⟩)
  · obtain ⟨p, n, rfl, _⟩ := h
    rfl
  · obtain ⟨p, n, rfl, hn, hn2, sc, hP, q⟩ := h
    refine ⟨fun σ' H' => ∃ x2 x3 ns i cur seed run bud, σ' = [some (.ref p), some (.int n), x2, x3] ∧ PoolIs H' p sc ns i cur seed run bud ∧ (∀ o, upd H' p o = upd H p o), ?_, ?_⟩
    · obtain ⟨ns, i, cur, seed, run, bud, h0⟩ := hP
      have sq := pool_ix (K := K) h0
      have sS : SqL K H sc (ns.map V.int) := .inl (.inl h0.sc)
      have ha : H p = some (.lst [.ref sc, .int i, .int cur, .int seed, .int run, .int bud]) := h0.at_
      have stay : ∃ x2 x3 ns i cur seed run bud, [some (.ref p), some (.int n), none, none] = [some (V.ref p), some (.int n), x2, x3] ∧ PoolIs H p sc ns i cur seed run bud ∧ (∀ o, upd H p o = upd H p o) := ⟨_, _, _, _, _, _, _, _, rfl, h0, fun _ => rfl⟩
      walk_at "rd"
      refine ite2 (fun e1 => ?_) (fun e1 => ?_)
      · walk_at "rd"
        refine ite2 (fun e2 => ?_) (fun e2 => ?_)
        · walk_at "rd"
          refine ite2 (fun e3 => ?_) (fun e3 => ?_)
          · have e4 : i < (ns.length : Int) := by
              have := of_decide_eq_true e3
              rw [List.length_map] at this
              exact this
            obtain ⟨j, rfl⟩ : ∃ j : Nat, i = j := ⟨i.toNat, by have := h0.i0; omega⟩
            have e5 : j < ns.length := by omega
            have hc : atI (ns.map V.int) (j : Int) = some (.int ns[j]) := by
              rw [atI_nat (j := j)]
              rw [List.getElem?_map, List.getElem?_eq_getElem e5]
              rfl
            generalize ns[j] = cell at hc
            have hm := Int.emod_nonneg (seed * 31 + cell) (show (2147483647 : Int) ≠ 0 by decide)
            have hm2 := Int.emod_lt_of_pos (seed * 31 + cell) (show (0 : Int) < 2147483647 by decide)
            walk_at "rd"
            refine ⟨_, _, _, _, rfl, rfl, sS, hc, ?_⟩
            walk_at "rd"
            refine ite2 (fun e6 => ?_) (fun e6 => ?_)
            · walk_at "rd"
              rw [upd_upd, upd_upd, upd_upd]
              exact ⟨some (.int cell), none, ns, (j : Int) + 1, cell, (seed * 31 + cell) % 2147483647, 7, bud, rfl, h0.put (by omega) hm hm2, fun _ => upd_upd⟩
            · rw [upd_upd, upd_upd]
              exact ⟨some (.int cell), none, ns, (j : Int) + 1, cur, (seed * 31 + cell) % 2147483647, 7, bud, rfl, h0.put (by omega) hm hm2, fun _ => upd_upd⟩
          · exact stay
        · exact iteF stay
      · exact iteF stay
    · rintro σ' H' ⟨x2, x3, ns, i, cur, seed, run, bud, rfl, h0, hu⟩
      have sq := pool_ix (K := K) h0
      have ha : H' p = some (.lst [.ref sc, .int i, .int cur, .int seed, .int run, .int bud]) := h0.at_
      have hs0 := h0.s0
      have hs1 := h0.s1
      walk_at "rd"
      refine ite2 (fun e1 => ?_) (fun e1 => ?_)
      · walk_at "rd"
        rw [upd_upd, hu]
        refine q _ _ (Int.emod_nonneg _ (by omega)) (Int.emod_lt_of_pos _ hn) ?_
        rw [← hu]
        exact ⟨ns, i, cur / n, seed, 0, bud, h0.put h0.i0 h0.s0 h0.s1⟩
      · walk_at "rd"
        rw [upd_upd, hu]
        refine q _ _ (Int.emod_nonneg _ (by omega)) (Int.emod_lt_of_pos _ hn) ?_
        rw [← hu]
        exact ⟨ns, i, cur, (seed * 48271 + 12345) % 2147483647, run - 1, bud, h0.put h0.i0 (Int.emod_nonneg _ (by decide)) (Int.emod_lt_of_pos _ (by decide))⟩
end

/-! ### _law_same: equal data are the same -/
/-- data of depth below n that _law_same goes through -/
def Fits : Nat → PyData → Prop
  | 0, _ => False
  | _ + 1, .none => True
  | _ + 1, .bool _ => True
  | _ + 1, .int _ => True
  | _ + 1, .str _ => True
  | n + 1, .list ds => ds.length ≤ 100000 ∧ ∀ d ∈ ds, Fits n d
  | n + 1, .tuple ds => ds.length ≤ 100000 ∧ ∀ d ∈ ds, Fits n d
  | _ + 1, .dict _ => False
def tyN : PyData → String
  | .none => "NoneType"
  | .bool _ => "bool"
  | .int _ => "int"
  | .str _ => "str"
  | .list _ => "list"
  | .tuple _ => "tuple"
  | .dict _ => "dict"
theorem tyx_sqL {K : PySem.W.Frag} {H : Hp} {a : Addr} {xs : List V} (h : SqL K H a xs) : TyX K H (.ref a) (.type "list") := by
  rcases h with (h | ⟨o, h⟩) | ⟨o, its, n, h, hc, _⟩
  · exact .base (.lst h)
  · exact .base (.frz h)
  · exact .kList h hc
theorem tyx_sqT {K : PySem.W.Frag} {H : Hp} {a : Addr} {xs : List V} (h : SqT K H a xs) : TyX K H (.ref a) (.type "tuple") := by
  rcases h with (h | ⟨o, h⟩) | ⟨o, its, n, h, hc, _⟩
  · exact .base (.tup h)
  · exact .fTuple h
  · exact .kTuple h hc
theorem dp_tyx {K : PySem.W.Frag} {H : Hp} {x : V} {d : PyData} (h : Dp K H x d) : TyX K H x (.type (tyN d)) := by
  cases h with
  | non => exact .base .non
  | bl b => exact .base (.bl b)
  | int i => exact .base (.int i)
  | str x => exact .base (.str x)
  | lst h _ => exact tyx_sqL h
  | tup h _ => exact tyx_sqT h
theorem dpa_len {K : PySem.W.Frag} {H : Hp} : ∀ {vs : List V} {ds : List PyData}, DpAll K H vs ds → vs.length = ds.length
  | [], [], _ => rfl
  | _ :: vs, _ :: ds, .cons _ t => congrArg Nat.succ (dpa_len t)
theorem dpa_get {K : PySem.W.Frag} {H : Hp} : ∀ {vs : List V} {ds : List PyData} {i : Nat}, DpAll K H vs ds → i < ds.length → ∃ v d, vs[i]? = some v ∧ ds[i]? = some d ∧ d ∈ ds ∧ Dp K H v d
  | [], [], _, _, h => absurd h (Nat.not_lt_zero _)
  | v :: vs, d :: ds, 0, .cons h t, _ => ⟨v, d, rfl, rfl, List.mem_cons_self, h⟩
  | _ :: vs, _ :: ds, i + 1, .cons _ t, hi => by
    obtain ⟨v, d, h1, h2, h3, h4⟩ := dpa_get (i := i) t (Nat.lt_of_succ_lt_succ hi)
    exact ⟨v, d, h1, h2, List.mem_cons_of_mem _ h3, h4⟩
def spSame (K : PySem.W.Frag) (n : Nat) : Sp := fun vs H Q _ => ∃ (x y : V) (d : PyData), vs = [x, y] ∧ Dp K H x d ∧ Dp K H y d ∧ Fits n d ∧ Q (.bl true) H
section
variable {P : Program} {w : World} {K : PySem.W.Frag} {mg : Str → Option Value} {base : Heap} {f : Addr} {fd : FuncData}
theorem ok__law_same (M : MB mg) (F : FnP K "_law_same" s__law_same f fd) (gf : mg "_law_same" = some (.ref f)) : ∀ n : Nat, FnOk P w K mg base CX0 (n + 1) f fd ["actual", "due"] (spSame K n) := by
  have bf : Binds K fd ["actual", "due"] [] := F.bindsN fun _ _ _ _ _ _ us hl => match us, hl with | [_, _], _ => rfl
  intro n
  induction n with
  | zero => exact ⟨fun vs H Q E ⟨_, _, _, _, _, _, h, _⟩ => h.elim, fun A outer s H args us vs Q E _ _ _ _ ⟨_, _, _, _, _, _, h, _⟩ => h.elim⟩
  | succ n ih =>
    have C__law_same : Callee P w K mg base CX0 "_law_same" ["actual", "due"] (n + 1) (spSame K n) := ⟨f, fd, gf, F.kp, bf, ih⟩
    refine F.ok sc__law_same (fun vs H Q E h => ?_) (fun cdv A outer s H vs Q E hr h => ⟨_, PSs.nox (pss_cons (ps_if (PW.pt (pw_or (pt_val (pe_callB call_isi (by rfl) M.isinstance (by decide +kernel) (pa_cons (pv 1) (pa_cons (pe_bltn (v := .ty "tuple") (u := .type "tuple") (by rfl) M.tuple (by decide +kernel) (by rfl)) pa_nil)))) (pw_or1 (pt_val (pe_callB call_isi (by rfl) M.isinstance (by decide +kernel) (pa_cons (pv 1) (pa_cons (pe_bltn (v := .ty "list") (u := .type "list") (by rfl) M.list (by decide +kernel) (by rfl)) pa_nil))))))) (pss_cons (ps_if (PW.pt (pw_or (pt_cmpR op_ne (pe_callB call_isi (by rfl) M.isinstance (by decide +kernel) (pa_cons (pv 1) (pa_cons (pe_bltn (v := .ty "tuple") (u := .type "tuple") (by rfl) M.tuple (by decide +kernel) (by rfl)) pa_nil))) (pe_callB call_isi (by rfl) M.isinstance (by decide +kernel) (pa_cons (pv 0) (pa_cons (pe_bltn (v := .ty "tuple") (u := .type "tuple") (by rfl) M.tuple (by decide +kernel) (by rfl)) pa_nil))) (nomark _)) (pw_or1 (pt_cmpR op_ne (pe_callB call_isi (by rfl) M.isinstance (by decide +kernel) (pa_cons (pv 1) (pa_cons (pe_bltn (v := .ty "list") (u := .type "list") (by rfl) M.list (by decide +kernel) (by rfl)) pa_nil))) (pe_callB call_isi (by rfl) M.isinstance (by decide +kernel) (pa_cons (pv 0) (pa_cons (pe_bltn (v := .ty "list") (u := .type "list") (by rfl) M.list (by decide +kernel) (by rfl)) pa_nil))) (nomark _))))) (pss_one (ps_ret pe_bl)) pss_nil)
  (pss_cons (ps_if (pt_cmpR op_ne (pe_callB call_len_seq (by rfl) M.len (by decide +kernel) (pa_cons (pv 0) pa_nil)) (pe_callB call_len_seq (by rfl) M.len (by decide +kernel) (pa_cons (pv 1) pa_nil)) (nomark _)) (pss_one (ps_ret pe_bl)) pss_nil)
  (pss_cons (ps_for PassesOwn.never rfl (pi_range1 (by rfl) M.range (pa_cons (pe_callB call_len_seq (by rfl) M.len (by decide +kernel) (pa_cons (pv 1) pa_nil)) pa_nil)) (pg_name (i := 2) sc__law_same.nd rfl (.inl rfl)) (pss_one (ps_if (pt_not (pt_val (pe_callC C__law_same (hr.mono (by first | decide | exact Nat.le_refl _ | omega)) (by rfl) (pa_cons (pe_ix ix_seq (pv 0) (pv 2) (fun _ _ => rfl)) (pa_cons (pe_ix ix_seq (pv 1) (pv 2) (fun _ _ => rfl)) pa_nil))))) (pss_one (ps_ret pe_bl)) pss_nil)))
  (pss_one (ps_ret pe_bl))))) pss_nil)
  (pss_cons (ps_if (PW.pt (pw_or (pt_cmpR op_isN (pv 1) pe_non (nomark _)) (pw_or1 (pt_val (pe_callB call_isi (by rfl) M.isinstance (by decide +kernel) (pa_cons (pv 1) (pa_cons (pe_bltn (v := .ty "bool") (u := .type "bool") (by rfl) M.bool (by decide +kernel) (by rfl)) pa_nil))))))) (pss_one (ps_ret (pe_and (pe_cmpR op_eq (pe_cmpR op_isN (pv 0) pe_non (nomark _)) (pe_cmpR op_isN (pv 1) pe_non (nomark _)) (nomark _)) (pe_and (pe_or (pe_cmpR op_isN (pv 1) pe_non (nomark _)) (pe_one (pe_callB call_isi (by rfl) M.isinstance (by decide +kernel) (pa_cons (pv 0) (pa_cons (pe_bltn (v := .ty "bool") (u := .type "bool") (by rfl) M.bool (by decide +kernel) (by rfl)) pa_nil))))) (pe_one (pe_cmpR op_eq (pv 0) (pv 1) (nomark _))))))) pss_nil)
  (pss_cons (ps_if (pt_val (pe_callB call_isi (by rfl) M.isinstance (by decide +kernel) (pa_cons (pv 1) (pa_cons (pe_bltn (v := .ty "int") (u := .type "int") (by rfl) M.int (by decide +kernel) (by rfl)) pa_nil)))) (pss_one (ps_ret (pe_and (pe_callB call_isi (by rfl) M.isinstance (by decide +kernel) (pa_cons (pv 0) (pa_cons (pe_bltn (v := .ty "int") (u := .type "int") (by rfl) M.int (by decide +kernel) (by rfl)) pa_nil))) (pe_and (pe_not (pe_callB call_isi (by rfl) M.isinstance (by decide +kernel) (pa_cons (pv 0) (pa_cons (pe_bltn (v := .ty "bool") (u := .type "bool") (by rfl) M.bool (by decide +kernel) (by rfl)) pa_nil)))) (pe_one (pe_cmpR op_eq (pv 0) (pv 1) (nomark _))))))) pss_nil)
  (pss_one (ps_ret (pe_and (pe_callB call_isi (by rfl) M.isinstance (by decide +kernel) (pa_cons (pv 0) (pa_cons (pe_bltn (v := .ty "str") (u := .type "str") (by rfl) M.str (by decide +kernel) (by rfl)) pa_nil))) (pe_one (pe_cmpR op_eq (pv 0) (pv 1) (nomark _))))))))), ?_⟩)
    · obtain ⟨x, y, d, rfl, _⟩ := h
      rfl
    · obtain ⟨x, y, d, rfl, hx, hy, hf, q⟩ := h
      cases d with
      | none =>
        cases hx
        cases hy
        have tx : TyX K H .non (.type "NoneType") := .base .non
        walk_at "go"
        exact q
      | bool b =>
        cases hx
        cases hy
        have tx : TyX K H (.bl b) (.type "bool") := .base (.bl b)
        walk_at "go"
        show Q (.bl (decide _)) H
        rw [decide_eq_true rfl]
        exact q
      | int i =>
        cases hx
        cases hy
        have tx : TyX K H (.int i) (.type "int") := .base (.int i)
        walk_at "go"
        show Q (.bl (decide _)) H
        rw [decide_eq_true rfl]
        exact q
      | str z =>
        cases hx
        cases hy
        have tx : TyX K H (.str z) (.type "str") := .base (.str z)
        walk_at "go"
        show Q (.bl (decide _)) H
        rw [decide_eq_true rfl]
        exact q
      | dict _ => exact hf.elim
      | list ds =>
        cases hx with
        | @lst a xs _ hx hxs =>
        cases hy with
        | @lst b ys _ hy hys =>
        have tx := tyx_sqL hx
        have ty := tyx_sqL hy
        have lx := dpa_len hxs
        have ly := dpa_len hys
        have hz : ds.length ≤ 100000 := hf.1
        have hb : ((ys.length : Nat) : Int) < 2 ^ 62 := by omega
        walk_at "go"
        refine iteNS (by rw [lx, ly]) ?_
        walk_at "go"
        refine for_range (fun _ σ' H' => (∃ z, σ' = [some (.ref a), some (.ref b), z]) ∧ H' = H) ⟨⟨_, rfl⟩, rfl⟩ ?_ ?_
        · rintro i σ' H' hi ⟨⟨z, rfl⟩, rfl⟩
          have hi2 : i < ds.length := by omega
          obtain ⟨v, d, h1, h2, h3, h4⟩ := dpa_get hxs hi2
          obtain ⟨v', d', h1', h2', h3', h4'⟩ := dpa_get hys hi2
          have ed : d' = d := Option.some.inj (h2'.symm.trans h2)
          subst ed
          have hfi := hf.2 d' h3
          have ez : (0 : Int) + (i : Int) = (i : Int) := Int.zero_add _
          rw [ez]
          refine ⟨_, rfl, _, rfl, .inl ⟨_, _, _, _, rfl, rfl, hx, atI_nat h1, ?_⟩⟩
          refine ⟨_, rfl, _, rfl, .inl ⟨_, _, _, _, rfl, rfl, hy, atI_nat h1', ?_⟩⟩
          refine ⟨_, _, _, rfl, h4, h4', hfi, ?_⟩
          walk_at "go"
          exact ⟨⟨_, rfl⟩, rfl⟩
        · rintro σ' H' ⟨⟨z, rfl⟩, rfl⟩
          walk_at "go"
          exact q
      | tuple ds =>
        cases hx with
        | @tup a xs _ hx hxs =>
        cases hy with
        | @tup b ys _ hy hys =>
        have tx := tyx_sqT hx
        have ty := tyx_sqT hy
        have lx := dpa_len hxs
        have ly := dpa_len hys
        have hz : ds.length ≤ 100000 := hf.1
        have hb : ((ys.length : Nat) : Int) < 2 ^ 62 := by omega
        walk_at "go"
        refine iteNS (by rw [lx, ly]) ?_
        walk_at "go"
        refine for_range (fun _ σ' H' => (∃ z, σ' = [some (.ref a), some (.ref b), z]) ∧ H' = H) ⟨⟨_, rfl⟩, rfl⟩ ?_ ?_
        · rintro i σ' H' hi ⟨⟨z, rfl⟩, rfl⟩
          have hi2 : i < ds.length := by omega
          obtain ⟨v, d, h1, h2, h3, h4⟩ := dpa_get hxs hi2
          obtain ⟨v', d', h1', h2', h3', h4'⟩ := dpa_get hys hi2
          have ed : d' = d := Option.some.inj (h2'.symm.trans h2)
          subst ed
          have hfi := hf.2 d' h3
          have ez : (0 : Int) + (i : Int) = (i : Int) := Int.zero_add _
          rw [ez]
          refine ⟨_, rfl, _, rfl, .inr (.inl ⟨_, _, _, _, rfl, rfl, hx, atI_nat h1, ?_⟩)⟩
          refine ⟨_, rfl, _, rfl, .inr (.inl ⟨_, _, _, _, rfl, rfl, hy, atI_nat h1', ?_⟩)⟩
          refine ⟨_, _, _, rfl, h4, h4', hfi, ?_⟩
          walk_at "go"
          exact ⟨⟨_, rfl⟩, rfl⟩
        · rintro σ' H' ⟨⟨z, rfl⟩, rfl⟩
          walk_at "go"
          exact q
end

/-! ### helpers of many defs -/
theorem ifT {c : Bool} {A B : Prop} (e : c = true) (h : A) : if c = true then A else B := by
  rw [if_pos e]
  exact h
theorem ifF {c : Bool} {A B : Prop} (e : c = false) (h : B) : if c = true then A else B := by
  rw [e, if_neg Bool.false_ne_true]
  exact h
theorem sqL_same {K : PySem.W.Frag} {H H' : Hp} {a : Addr} {xs : List V} (e : Same H H') (h : SqL K H a xs) : SqL K H' a xs := by
  rcases h with (q | ⟨o, q⟩) | q
  · exact .inl (.inl (e _ _ q))
  · exact .inl (.inr ⟨o, e _ _ q⟩)
  · exact .inr q
def natV (l : List Nat) : List V := l.map fun n => V.int (n : Nat)
theorem tyL {K : PySem.W.Frag} {H : Hp} {a : Addr} {xs : List V} (h : SqL K H a xs) : tyV K "list" (.ref a) H := .inl ⟨rfl, xs, h⟩
def natI (l : List Nat) : List Int := l.map fun n => ((n : Nat) : Int)
theorem natV_I (l : List Nat) : natV l = (natI l).map V.int := by
  unfold natV natI
  rw [List.map_map]
  rfl
theorem natI_get (l : List Nat) (j k : Nat) : (natI l)[j]? = some (k : Int) ↔ l[j]? = some k := by
  unfold natI
  rw [List.getElem?_map]
  cases l[j]? with
  | none => simp
  | some a =>
    simp
    omega
theorem er_map {α β : Type} {f : α → β} : ∀ (l : List α) (j : Nat), (l.map f).eraseIdx j = (l.eraseIdx j).map f
  | [], _ => rfl
  | _ :: _, 0 => rfl
  | a :: l, j + 1 => congrArg (f a :: ·) (er_map l j)
theorem natI_erase (l : List Nat) (j : Nat) : (natI l).eraseIdx j = natI (l.eraseIdx j) := by
  unfold natI
  exact er_map l j
theorem rg_nat (n : Nat) : rgV 0 (n : Int) = natV (List.range n) := by
  unfold rgV natV
  rw [show ((n : Int) - 0).toNat = n by omega]
  refine List.map_congr_left fun k _ => ?_
  rw [Int.zero_add]
def iEither (K : PySem.W.Frag) (tl : TE) : TI := fun σ H R => tl σ H fun x H1 => ∃ a, x = .ref a ∧ (((∃ xs, SqL K H1 a xs) ∧ R (Itl K a) H1) ∨ ((∃ xs, SqT K H1 a xs) ∧ R (Itt K a) H1))
theorem pi_either {X : Cx} {tg l : Expr} {tl : TE} (hl : PE X l tl) : PI X tg l (iEither X.K tl) := by
  refine ⟨fun pins s σ H R I h => ?_⟩
  refine thn (hl.run pins s σ H _ I h) fun v s1 ⟨x, H1, I1, r1, a, e, q⟩ => ?_
  subst e
  cases r1
  rcases q with ⟨⟨xs, hq⟩, q⟩ | ⟨⟨xs, hq⟩, q⟩
  · obtain ⟨its, rv, p, hz⟩ := I1.list hq
    refine wpAny_pyIter_list p.isList ⟨s1.heap.objs.size, [s1.heap.objs.size], _, _, H1, rfl, I1.kept (t' := s1.toks) fun b o e => Heap.get?_push_of_some _ e, turn_list a _, ⟨_, Heap.get?_push_size _ rfl, rfl, rfl⟩, fun b hb => ?_, q⟩
    have e : b = s1.heap.objs.size := by simpa using hb
    subst e
    exact I1.fpOk (Nat.le_refl _) (I1.hok.fresh (Nat.le_refl _))
  · obtain ⟨its, rv, p, hz⟩ := I1.tuple hq
    refine wpAny_pyIter_tuple (show s1.heap.IsTuple a its.toArray from p) ⟨s1.heap.objs.size, [s1.heap.objs.size], _, _, H1, rfl, I1.kept (t' := s1.toks) fun b o e => Heap.get?_push_of_some _ e, turn_tuple a _, ⟨_, Heap.get?_push_size _ rfl, rfl, rfl⟩, fun b hb => ?_, q⟩
    have e : b = s1.heap.objs.size := by simpa using hb
    subst e
    exact I1.fpOk (Nat.le_refl _) (I1.hok.fresh (Nat.le_refl _))
theorem tOr_of {t u : TT} {σ : L2.St} {H : Hp} {Q : Bool → Hp → Prop} (b c : Bool) (h1 : ∀ Q' : Bool → Hp → Prop, Q' b H → t σ H Q') (h2 : b = false → ∀ Q' : Bool → Hp → Prop, Q' c H → u σ H Q') (q : Q (b || c) H) : tOr t u σ H Q := by
  refine h1 _ ?_
  cases b with
  | true => exact ifT rfl q
  | false => exact ifF rfl (h2 rfl _ q)
theorem tAnd_of {t u : TT} {σ : L2.St} {H : Hp} {Q : Bool → Hp → Prop} (b c : Bool) (h1 : ∀ Q' : Bool → Hp → Prop, Q' b H → t σ H Q') (h2 : b = true → ∀ Q' : Bool → Hp → Prop, Q' c H → u σ H Q') (q : Q (b && c) H) : tAnd t u σ H Q := by
  refine h1 _ ?_
  cases b with
  | true => exact ifT rfl (h2 rfl _ q)
  | false => exact ifF rfl q
theorem tNot_of {t : TT} {σ : L2.St} {H : Hp} {Q : Bool → Hp → Prop} (b : Bool) (h1 : ∀ Q' : Bool → Hp → Prop, Q' b H → t σ H Q') (q : Q (!b) H) : tNot t σ H Q := h1 _ q
def strD (l : List Str) : List PyData := l.map PyData.str
theorem strD_dpa {K : PySem.W.Frag} {H : Hp} : ∀ (l : List Str), DpAll K H (l.map V.str) (strD l)
  | [] => .nil
  | x :: l => .cons (.str x) (strD_dpa l)
theorem strD_eq {K : PySem.W.Frag} {H : Hp} : ∀ {l : List Str} {vs : List V}, DpAll K H vs (strD l) → vs = l.map V.str
  | [], _, .nil => rfl
  | x :: l, _, .cons h t => by
    cases h
    rw [strD_eq (l := l) t]
    rfl
theorem dec_pos {p : Prop} [Decidable p] (h : p) : decide p = true := decide_eq_true h
theorem yes_of {σ : L2.St} {H : Hp} {A B : Hp → Prop} (h : A H) : tYes σ H fun b H3 => if b = true then A H3 else B H3 := by
  show if true = true then A H else B H
  rw [if_pos rfl]
  exact h
theorem lc2_out {wi1 : TI} {g g1 : TG} {tt tt1 : TT} {te : TE} {vs vs1 : List Nat} {σ : L2.St} {H1 : Hp} {D : Addr} {Qd : Hp → Prop} {lo : Int} {n : Nat} (Pv : Nat → Hp → Prop) (h0 : Pv 0 (upd H1 D (.lst [])))
    (hs : ∀ i H, i < n → Pv i H → g (.int (lo + (i : Nat))) (wipe σ vs) H fun σ2 H2 => wipe σ2 vs = wipe σ vs ∧ tt σ2 H2 fun b H3 =>
      if b = true then wi1 σ2 H3 fun J1 H4 => ∃ W1 : Nat → Nat → Hp → Prop, (∃ m, W1 0 m H4) ∧ ∀ j k H, W1 j k H →
        (J1.stop j H ∧ Pv (i + 1) H) ∨ (J1.go j H ∧ ∃ Nx1 : Hp → Prop, (∀ H', Nx1 H' → ∃ k', k' < k ∧ W1 (j + 1) k' H') ∧ ∀ x H', J1.yld j H x H' → g1 x (wipe σ2 vs1) H' fun σ3 H5 => wipe σ3 vs1 = wipe σ2 vs1 ∧ tt1 σ3 H5 fun b H6 =>
          if b = true then te σ3 H6 fun y H7 => ∃ acc, H7 D = some (.lst acc) ∧ acc.length < sizeLine ∧ Nx1 (upd H7 D (.lst (acc ++ [y]))) else Nx1 H6)
      else Pv (i + 1) H3) (hd : ∀ H, Pv n H → Qd H) :
    ∃ W : Nat → Nat → Hp → Prop, (∃ m, W 0 m (upd H1 D (.lst []))) ∧ ∀ i m H, W i m H →
      ((Itr lo n).stop i H ∧ Qd H) ∨ ((Itr lo n).go i H ∧ ∃ Nx : Hp → Prop, (∀ H', Nx H' → ∃ m', m' < m ∧ W (i + 1) m' H') ∧ ∀ x H', (Itr lo n).yld i H x H' → g x (wipe σ vs) H' fun σ2 H2 => wipe σ2 vs = wipe σ vs ∧ tt σ2 H2 fun b H3 =>
        if b = true then wi1 σ2 H3 fun J1 H4 => ∃ W1 : Nat → Nat → Hp → Prop, (∃ m, W1 0 m H4) ∧ ∀ j k H, W1 j k H →
          (J1.stop j H ∧ Nx H) ∨ (J1.go j H ∧ ∃ Nx1 : Hp → Prop, (∀ H', Nx1 H' → ∃ k', k' < k ∧ W1 (j + 1) k' H') ∧ ∀ x H', J1.yld j H x H' → g1 x (wipe σ2 vs1) H' fun σ3 H5 => wipe σ3 vs1 = wipe σ2 vs1 ∧ tt1 σ3 H5 fun b H6 =>
            if b = true then te σ3 H6 fun y H7 => ∃ acc, H7 D = some (.lst acc) ∧ acc.length < sizeLine ∧ Nx1 (upd H7 D (.lst (acc ++ [y]))) else Nx1 H6)
        else Nx H3) := by
  refine ⟨fun i m H => m = n - i ∧ i ≤ n ∧ Pv i H, ⟨n, by omega, Nat.zero_le _, h0⟩, ?_⟩
  rintro i m H ⟨rfl, hi, p⟩
  by_cases hlt : i < n
  · refine .inr ⟨hlt, Pv (i + 1), fun H' p' => ⟨n - (i + 1), by omega, rfl, hlt, p'⟩, fun x H' y => ?_⟩
    obtain ⟨e1, e2⟩ := y
    subst e1
    subst e2
    exact hs i _ hlt p
  · have e : i = n := by omega
    subst e
    exact .inl ⟨Nat.le_refl _, hd H p⟩
theorem lc2_in {g1 : TG} {tt1 : TT} {te : TE} {vs1 : List Nat} {σ2 : L2.St} {H4 : Hp} {D : Addr} {Nx : Hp → Prop} {lo : Int} {n : Nat} (Pw : Nat → Hp → Prop) (h0 : Pw 0 H4)
    (hs : ∀ j H, j < n → Pw j H → g1 (.int (lo + (j : Nat))) (wipe σ2 vs1) H fun σ3 H5 => wipe σ3 vs1 = wipe σ2 vs1 ∧ tt1 σ3 H5 fun b H6 =>
      if b = true then te σ3 H6 fun y H7 => ∃ acc, H7 D = some (.lst acc) ∧ acc.length < sizeLine ∧ Pw (j + 1) (upd H7 D (.lst (acc ++ [y]))) else Pw (j + 1) H6) (hd : ∀ H, Pw n H → Nx H) :
    ∃ W1 : Nat → Nat → Hp → Prop, (∃ m, W1 0 m H4) ∧ ∀ j k H, W1 j k H →
      ((Itr lo n).stop j H ∧ Nx H) ∨ ((Itr lo n).go j H ∧ ∃ Nx1 : Hp → Prop, (∀ H', Nx1 H' → ∃ k', k' < k ∧ W1 (j + 1) k' H') ∧ ∀ x H', (Itr lo n).yld j H x H' → g1 x (wipe σ2 vs1) H' fun σ3 H5 => wipe σ3 vs1 = wipe σ2 vs1 ∧ tt1 σ3 H5 fun b H6 =>
        if b = true then te σ3 H6 fun y H7 => ∃ acc, H7 D = some (.lst acc) ∧ acc.length < sizeLine ∧ Nx1 (upd H7 D (.lst (acc ++ [y]))) else Nx1 H6) := by
  refine ⟨fun i m H => m = n - i ∧ i ≤ n ∧ Pw i H, ⟨n, by omega, Nat.zero_le _, h0⟩, ?_⟩
  rintro i m H ⟨rfl, hi, p⟩
  by_cases hlt : i < n
  · refine .inr ⟨hlt, Pw (i + 1), fun H' p' => ⟨n - (i + 1), by omega, rfl, hlt, p'⟩, fun x H' y => ?_⟩
    obtain ⟨e1, e2⟩ := y
    subst e1
    subst e2
    exact hs i _ hlt p
  · have e : i = n := by omega
    subst e
    exact .inl ⟨Nat.le_refl _, hd H p⟩
theorem back_none {H H' : Hp} {q : Addr} (s : Same H H') (h : H' q = none) : H q = none := by
  cases e : H q with
  | none => rfl
  | some o =>
    rw [s _ _ e] at h
    cases h
theorem cut_take {α : Type} (f : α → V) (l : List α) (n : Nat) : cutV (l.map f) none (some (n : Int)) = (l.take n).map f := by
  unfold cutV
  rw [HT.sIx_none, HT.sIx_nat, List.drop_zero, Nat.sub_zero, List.length_map, ← List.map_take]
  congr 1
  by_cases c : n ≤ l.length
  · rw [Nat.min_eq_left c]
  · rw [Nat.min_eq_right (by omega), List.take_length, List.take_of_length_le (by omega)]
theorem cut_drop {α : Type} (f : α → V) (l : List α) (k : Nat) : cutV (l.map f) (some (k : Int)) none = (l.drop k).map f := by
  unfold cutV
  rw [HT.sIx_none, HT.sIx_nat, List.length_map, ← List.map_drop, ← List.map_take]
  congr 1
  by_cases c : k ≤ l.length
  · rw [Nat.min_eq_left c]
    exact List.take_of_length_le (by rw [List.length_drop]; omega)
  · rw [Nat.min_eq_right (by omega), List.drop_of_length_le (Nat.le_refl _), List.drop_of_length_le (show l.length ≤ k by omega)]
    simp
theorem map_get {α : Type} {f : α → PyData} {K : PySem.W.Frag} {H : Hp} {xs : List V} {l : List α} {i : Nat} {x : V} (h : DpAll K H xs (l.map f)) (hx : xs[i]? = some x) : ∃ p, l[i]? = some p ∧ Dp K H x (f p) := by
  have hl := dpa_len h
  have hi : i < (l.map f).length := by
    have := (List.getElem?_eq_some_iff.mp hx).1
    omega
  obtain ⟨v, d, h1, h2, h3, h4⟩ := dpa_get h hi
  obtain rfl : v = x := Option.some.inj (h1.symm.trans hx)
  rw [List.getElem?_map] at h2
  cases e : l[i]? with
  | none =>
    rw [e] at h2
    cases h2
  | some p =>
    rw [e] at h2
    obtain rfl := Option.some.inj h2
    exact ⟨p, rfl, h4⟩

/-! ### regions: what a def has made itself -/
mutual
theorem dp_same {K : PySem.W.Frag} {H H' : Hp} (e : Same H H') : ∀ {v : V} {d : PyData}, Dp K H v d → Dp K H' v d
  | _, _, .non => .non
  | _, _, .bl b => .bl b
  | _, _, .int i => .int i
  | _, _, .str x => .str x
  | _, _, .lst h hs => .lst (sqL_same e h) (dpa_same e hs)
  | _, _, .tup h hs => .tup (same_seqT e h) (dpa_same e hs)
theorem dpa_same {K : PySem.W.Frag} {H H' : Hp} (e : Same H H') : ∀ {vs : List V} {ds : List PyData}, DpAll K H vs ds → DpAll K H' vs ds
  | _, _, .nil => .nil
  | _, _, .cons h t => .cons (dp_same e h) (dpa_same e t)
end
theorem dpa_append {K : PySem.W.Frag} {H : Hp} : ∀ {vs : List V} {ds : List PyData} {us : List V} {es : List PyData}, DpAll K H vs ds → DpAll K H us es → DpAll K H (vs ++ us) (ds ++ es)
  | [], [], _, _, .nil, h => h
  | _ :: _, _ :: _, _, _, .cons a t, h => .cons a (dpa_append t h)
theorem same_upd_new {H0 H : Hp} {a : Addr} {o : HO} (e : Same H0 H) (h : H0 a = none) : Same H0 (upd H a o) := fun b u q => by
  rw [upd_ne (ne_of_none q h)]
  exact e b u q
/-- G: cells of H that were not in H0, none of them in ex -/
structure Reg (H0 H G : Hp) (ex : List Addr) : Prop where
  sub : Same G H
  new : ∀ b, H0 b ≠ none → G b = none
  out : ∀ a ∈ ex, G a = none
def hp0 : Hp := fun _ => none
theorem reg0 {H0 H : Hp} {ex : List Addr} : Reg H0 H hp0 ex :=
  ⟨fun b o (e : (none : Option HO) = some o) => (by cases e), fun _ _ => rfl, fun _ _ => rfl⟩
def un2 (G G' : Hp) : Hp := fun b => match G b with | some o => some o | none => G' b
theorem un2_l {G G' : Hp} : Same G (un2 G G') := fun b o e => by
  unfold un2
  rw [e]
theorem Reg.put {H0 H G : Hp} {ex : List Addr} (r : Reg H0 H G ex) {a : Addr} {o : HO} (h : a ∈ ex) : Reg H0 (L2.upd H a o) G ex :=
  ⟨fun b u e => by
    rw [upd_ne (ne_of_none e (r.out a h))]
    exact r.sub b u e, r.new, r.out⟩
theorem Reg.more {H0 H H' G : Hp} {ex : List Addr} (r : Reg H0 H G ex) (e : Same H H') : Reg H0 H' G ex := ⟨r.sub.trans e, r.new, r.out⟩
theorem Reg.add {H0 H G : Hp} {ex : List Addr} (r : Reg H0 H G ex) (s : Same H0 H) {p : Addr} {o : HO} (h : H p = none) (ho : ∀ a ∈ ex, H a ≠ none) : Reg H0 (L2.upd H p o) (L2.upd G p o) ex := by
  have hp : ∀ b, b ≠ p → ∀ o', L2.upd G p o' b = G b := fun b n o' => upd_ne n
  refine ⟨fun b u e => ?_, fun b n => ?_, fun a m => ?_⟩
  · by_cases c : b = p
    · subst c
      rw [upd_same] at e ⊢
      exact e
    · rw [upd_ne c] at e ⊢
      exact r.sub b u e
  · have c : b ≠ p := fun z => n (by
      cases e : H0 b with
      | none => rfl
      | some u =>
        have q := s b u e
        rw [z, h] at q
        cases q)
    rw [upd_ne c]
    exact r.new b n
  · have c : a ≠ p := fun z => ho a m (by rw [z]; exact h)
    rw [upd_ne c]
    exact r.out a m
/-- a kept-out cell is let in -/
theorem Reg.take {H0 H G : Hp} {ex : List Addr} (r : Reg H0 H G ex) {p : Addr} {o : HO} (h0 : H0 p = none) (h : H p = some o) {ex' : List Addr} (hx : ∀ a ∈ ex', a ∈ ex ∧ a ≠ p) : Reg H0 H (L2.upd G p o) ex' := by
  refine ⟨fun b u e => ?_, fun b n => ?_, fun a m => ?_⟩
  · by_cases c : b = p
    · subst c
      rw [upd_same] at e
      rw [h]
      exact e
    · rw [upd_ne c] at e
      exact r.sub b u e
  · have c : b ≠ p := fun z => n (by rw [z]; exact h0)
    rw [upd_ne c]
    exact r.new b n
  · rw [upd_ne (hx a m).2]
    exact r.out a (hx a m).1
/-- what a callee has made besides -/
theorem Reg.un {H0 H H' G G' : Hp} {ex ex' : List Addr} (r : Reg H0 H G ex) (s : Same H0 H) (t : Same H H') (r' : Reg H H' G' ex') (ho : ∀ a ∈ ex, H a ≠ none) : Reg H0 H' (un2 G G') ex ∧ Same G' (un2 G G') := by
  refine ⟨⟨fun b u e => ?_, fun b n => ?_, fun a m => ?_⟩, fun b u e => ?_⟩
  · unfold un2 at e
    cases g : G b with
    | some o =>
      rw [g] at e
      rw [← Option.some.inj e]
      exact t _ _ (r.sub b o g)
    | none =>
      rw [g] at e
      exact r'.sub b u e
  · unfold un2
    rw [r.new b n]
    refine r'.new b fun z => n ?_
    cases e : H0 b with
    | none => rfl
    | some u =>
      have q := s b u e
      rw [z] at q
      cases q
  · unfold un2
    rw [r.out a m]
    exact r'.new a (ho a m)
  · unfold un2
    cases g : G b with
    | some o =>
      have q := r.sub b o g
      have z := r'.new b (by rw [q]; exact fun z => by cases z)
      rw [z] at e
      cases e
    | none => exact e
/-- the value v, of the data d, made since H0 -/
def Made (K : PySem.W.Frag) (H0 H : Hp) (v : V) (d : PyData) : Prop := ∃ G, Reg H0 H G [] ∧ Dp K G v d
theorem Made.dp {K : PySem.W.Frag} {H0 H : Hp} {v : V} {d : PyData} (h : Made K H0 H v d) : Dp K H v d := by
  obtain ⟨G, r, q⟩ := h
  exact dp_same r.sub q
/-- a new tuple of what was made, appended to the list at M -/
theorem app_step {K : PySem.W.Frag} {H H3 G : Hp} {M t : Addr} {vs xs : List V} {ds es : List PyData} (rG : Reg H H3 G [M]) (dG : DpAll K G vs ds) (dx : DpAll K G xs es) (ht : H3 t = none) (eM : H3 M = some (.lst vs)) (s : Same H H3) (hM : H M = none) :
    Same H (upd (upd H3 t (.tup xs)) M (.lst (vs ++ [.ref t]))) ∧ ∃ G', Reg H (upd (upd H3 t (.tup xs)) M (.lst (vs ++ [.ref t]))) G' [M] ∧ DpAll K G' (vs ++ [.ref t]) (ds ++ [.tuple es]) := by
  have nM : ∀ a ∈ [M], H3 a ≠ none := by
    intro a ha z
    rw [List.mem_singleton.mp ha, eM] at z
    cases z
  have Gt : G t = none := by
    cases e : G t with
    | none => rfl
    | some o =>
      have z := rG.sub t o e
      rw [ht] at z
      cases z
  exact ⟨same_upd_new (s.trans (same_upd ht)) hM, _, (rG.add s (o := .tup xs) ht nM).put (List.mem_singleton.mpr rfl), dpa_append (dpa_same (same_upd Gt) dG) (.cons (.tup (.inl (.inl upd_same)) (dpa_same (same_upd Gt) dx)) .nil)⟩
/-- a callee's answer joins the region -/
theorem join_made {K : PySem.W.Frag} {H H2 H3 G : Hp} {M : Addr} {vs us : List V} {ds : List PyData} {v : V} {d : PyData} (rG : Reg H H2 G [M]) (dG : DpAll K G vs ds) (s : Same H H2) (s3 : Same H2 H3) (eM : H2 M = some (.lst us)) (hm : Made K H2 H3 v d) :
    ∃ G', Reg H H3 G' [M] ∧ DpAll K G' vs ds ∧ Dp K G' v d ∧ Same G G' := by
  obtain ⟨G1, r1, d1⟩ := hm
  obtain ⟨r2, s2⟩ := rG.un s s3 r1 (by
    intro a ha z
    rw [List.mem_singleton.mp ha, eM] at z
    cases z)
  exact ⟨_, r2, dpa_same un2_l dG, dp_same s2 d1, un2_l⟩
theorem join0 {K : PySem.W.Frag} {H H2 H3 G : Hp} {v : V} {d : PyData} (rG : Reg H H2 G []) (s : Same H H2) (s3 : Same H2 H3) (hm : Made K H2 H3 v d) : ∃ G', Reg H H3 G' [] ∧ Same G G' ∧ Dp K G' v d := by
  obtain ⟨G1, r1, d1⟩ := hm
  obtain ⟨r2, s2⟩ := rG.un s s3 r1 (by
    intro a ha z
    cases ha)
  exact ⟨_, r2, un2_l, dp_same s2 d1⟩
/-- what was made is appended to the list at M -/
theorem put_step {K : PySem.W.Frag} {H H3 G : Hp} {M : Addr} {vs : List V} {v : V} {ds : List PyData} {d : PyData} (rG : Reg H H3 G [M]) (dG : DpAll K G vs ds) (dv : Dp K G v d) (s : Same H H3) (hM : H M = none) :
    Same H (upd H3 M (.lst (vs ++ [v]))) ∧ Reg H (upd H3 M (.lst (vs ++ [v]))) G [M] ∧ DpAll K G (vs ++ [v]) (ds ++ [d]) :=
  ⟨same_upd_new s hM, rG.put (List.mem_singleton.mpr rfl), dpa_append dG (.cons dv .nil)⟩
/-- a callee's answer joins, a cell of the base being written meanwhile -/
theorem Reg.unD {H0 H H' G G' : Hp} {ex ex' : List Addr} (r : Reg H0 H G ex) (hd : ∀ b, H0 b ≠ none → H b ≠ none) (t : Same H H') (r' : Reg H H' G' ex') (ho : ∀ a ∈ ex, H a ≠ none) : Reg H0 H' (un2 G G') ex ∧ Same G' (un2 G G') := by
  refine ⟨⟨fun b u e => ?_, fun b n => ?_, fun a m => ?_⟩, fun b u e => ?_⟩
  · unfold un2 at e
    cases g : G b with
    | some o =>
      rw [g] at e
      rw [← Option.some.inj e]
      exact t _ _ (r.sub b o g)
    | none =>
      rw [g] at e
      exact r'.sub b u e
  · unfold un2
    rw [r.new b n]
    exact r'.new b (hd b n)
  · unfold un2
    rw [r.out a m]
    exact r'.new a (ho a m)
  · unfold un2
    cases g : G b with
    | some o =>
      have q := r.sub b o g
      have z := r'.new b (by rw [q]; exact fun z => by cases z)
      rw [z] at e
      cases e
    | none => exact e

/-! ### as_tuples -/
mutual
def tupD : PyData → PyData
  | .list ds => .tuple (tupDs ds)
  | .tuple ds => .tuple (tupDs ds)
  | .none => .none
  | .bool b => .bool b
  | .int i => .int i
  | .str x => .str x
  | .dict ps => .dict ps
def tupDs : List PyData → List PyData
  | [] => []
  | d :: ds => tupD d :: tupDs ds
end
theorem tupDs_map : ∀ ds : List PyData, tupDs ds = ds.map tupD
  | [] => by rw [tupDs]; rfl
  | d :: ds => by rw [tupDs, tupDs_map ds]; rfl
def spTuples (K : PySem.W.Frag) (n : Nat) : Sp := fun vs H Q _ => ∃ (x : V) (d : PyData), vs = [x] ∧ Dp K H x d ∧ Fits n d ∧ ∀ (v : V) (H' : Hp), Same H H' → Made K H H' v (tupD d) → Q v H'
theorem lc_tups {K : PySem.W.Frag} {n : Nat} {J : It} {Gd : Hp → Prop} {xs : List V} {ds : List PyData} {H1 : Hp} {D : Addr} {Qd : Hp → Prop} {x0 : V} (w : Walk J xs.length Gd (YAt xs)) (hG : ∀ H', Same H1 H' → Gd H') (hd : DpAll K H1 xs ds) (hf : ∀ d ∈ ds, Fits n d) (hl : ds.length ≤ 100000) (hD : H1 D = none)
    (q : ∀ (H' : Hp) (vs : List V) (G' : Hp), Same H1 H' → H' D = some (.lst vs) → Reg H1 H' G' [D] → DpAll K G' vs (tupDs ds) → Qd H') :
    ∃ W : Nat → Nat → Hp → Prop, (∃ m, W 0 m (upd H1 D (.lst []))) ∧ ∀ i m H, W i m H →
      (J.stop i H ∧ Qd H) ∨ (J.go i H ∧ ∃ Nx : Hp → Prop, (∀ H', Nx H' → ∃ m', m' < m ∧ W (i + 1) m' H') ∧ ∀ x H', J.yld i H x H' → gName 1 x (wipe [some x0, none] [1]) H' fun σ2 H2 => wipe σ2 [1] = wipe [some x0, none] [1] ∧ tYes σ2 H2 fun b H3 =>
        if b = true then tCall (spTuples K n) [] E0 (tCons (tVar 1) tNil) σ2 H3 fun y H4 => ∃ acc, H4 D = some (.lst acc) ∧ acc.length < sizeLine ∧ Nx (upd H4 D (.lst (acc ++ [y]))) else Nx H3) := by
  have hs := sizeLine_eq
  have lx := dpa_len hd
  refine lc_it w (fun i H' => ∃ (vs : List V) (G' : Hp), Same H1 H' ∧ H' D = some (.lst vs) ∧ Reg H1 H' G' [D] ∧ DpAll K G' vs (tupDs (ds.take i))) ⟨[], hp0, same_upd hD, upd_same, reg0, .nil⟩ (fun i H' _ h => ?_) (fun i x H' H2 hi h hy => ?_) (fun H' h => ?_)
  · obtain ⟨_, _, h1, _⟩ := h
    exact hG _ h1
  · obtain ⟨vs, G', h1, h2, h3, h4⟩ := h
    obtain ⟨rfl, hx⟩ := hy
    obtain ⟨v, d, e1, e2, e3, e4⟩ := dpa_get hd (i := i) (by omega)
    obtain rfl : v = x := Option.some.inj (e1.symm.trans hx)
    refine ⟨rfl, yes_of ⟨_, rfl, v, d, rfl, dp_same h1 e4, hf d e3, fun u H3 s3 hm => ?_⟩⟩
    have e5 := s3 _ _ h2
    obtain ⟨G2, r2, d2, d3, _⟩ := join_made h3 h4 h1 s3 h2 hm
    obtain ⟨s5, r5, d5⟩ := put_step r2 d2 d3 (h1.trans s3) hD
    have hvl := dpa_len h4
    rw [tupDs_map, List.length_map, List.length_take] at hvl
    refine ⟨vs, e5, by omega, _, G2, s5, upd_same, r5, ?_⟩
    obtain ⟨hk, he⟩ := List.getElem?_eq_some_iff.mp e2
    rw [List.take_succ_eq_append_getElem hk, he, tupDs_map, List.map_append, ← tupDs_map]
    exact d5
  · obtain ⟨vs, G', h1, h2, h3, h4⟩ := h
    rw [lx, List.take_length] at h4
    exact q H' vs G' h1 h2 h3 h4
theorem kit_no {K : PySem.W.Frag} {t : String} (h1 : kitB t "list" = some false) (h2 : kitB t "tuple" = some false) : PySem.W.kitAny K (.type t) [.type "list", .type "tuple"] = some false :=
  kitAny_cons (kit_ty h1) (fun _ => kitAny_cons (kit_ty h2) (fun _ => kitAny_nil) (fun z => by cases z)) (fun z => by cases z)
theorem kit_li {K : PySem.W.Frag} : PySem.W.kitAny K (.type "list") [.type "list", .type "tuple"] = some true :=
  kitAny_cons (b := true) (kit_ty (by decide +kernel)) (fun z => by cases z) (fun _ => rfl)
theorem kit_tu {K : PySem.W.Frag} : PySem.W.kitAny K (.type "tuple") [.type "list", .type "tuple"] = some true :=
  kitAny_cons (b := false) (kit_ty (by decide +kernel)) (fun _ => kitAny_cons (b := true) (kit_ty (by decide +kernel)) (fun z => by cases z) (fun _ => rfl)) (fun z => by cases z)
theorem Reg.base {H0 H1 H G : Hp} {ex : List Addr} (s : Same H0 H1) (r : Reg H1 H G ex) : Reg H0 H G [] :=
  ⟨r.sub, fun b n => r.new b fun z => n (by
    cases e : H0 b with
    | none => rfl
    | some o =>
      have q := s b o e
      rw [z] at q
      cases q), fun _ h => by cases h⟩
theorem fin_tups {K : PySem.W.Frag} {H H1 H' G' : Hp} {D l : Addr} {vs : List V} {ds : List PyData} {Q : VK} (q : ∀ (v : V) (H' : Hp), Same H H' → Made K H H' v (.tuple (tupDs ds)) → Q v H') (s1 : Same H H1) (s' : Same H1 H') (r' : Reg H1 H' G' [D]) (d' : DpAll K G' vs (tupDs ds)) (hl : H' l = none) :
    Q (.ref l) (upd H' l (.tup vs)) := by
  have rb := r'.base s1
  have Gl : G' l = none := by
    cases e : G' l with
    | none => rfl
    | some o =>
      have z := r'.sub l o e
      rw [hl] at z
      cases z
  exact q _ _ ((s1.trans s').trans (same_upd hl)) ⟨_, rb.add (s1.trans s') hl (fun _ h => by cases h), .tup (.inl (.inl upd_same)) (dpa_same (same_upd Gl) d')⟩
section
variable {P : Program} {w : World} {K : PySem.W.Frag} {mg : Str → Option Value} {base : Heap} {f : Addr} {fd : FuncData}
theorem ok_as_tuples (M : MB mg) (F : FnP K "as_tuples" s_as_tuples f fd) (gf : mg "as_tuples" = some (.ref f)) : ∀ n : Nat, FnOk P w K mg base CX0 (n + 1) f fd ["part"] (spTuples K n) := by
  have bf : Binds K fd ["part"] [] := F.bindsN fun _ _ _ _ _ _ us hl => match us, hl with | [_], _ => rfl
  intro n
  induction n with
  | zero => exact ⟨fun vs H Q E ⟨_, _, _, _, h, _⟩ => h.elim, fun A outer s H args us vs Q E _ _ _ _ ⟨_, _, _, _, h, _⟩ => h.elim⟩
  | succ n ih =>
    have C_as_tuples : Callee P w K mg base CX0 "as_tuples" ["part"] (n + 1) (spTuples K n) := ⟨f, fd, gf, F.kp, bf, ih⟩
    refine F.ok sc_as_tuples (fun vs H Q E h => ?_) (fun cdv A outer s H vs Q E hr h => ⟨_, PSs.nox (pss_cons (ps_if (pt_val (pe_callB call_isiT (by rfl) M.isinstance (by decide +kernel) (pa_cons (pv 0) (pa_cons (pe_tup (pa_cons (pe_bltn (v := .ty "list") (u := .type "list") (by rfl) M.list (by decide +kernel) (by rfl)) (pa_cons (pe_bltn (v := .ty "tuple") (u := .type "tuple") (by rfl) M.tuple (by decide +kernel) (by rfl)) pa_nil))) pa_nil)))) (pss_one (ps_ret (pe_callTy call_tuple_of (by rfl) M.tuple (by decide +kernel) (pa_cons (pe_lc (own := [("item", 1)]) (g := gName 1) (by rfl) sc_as_tuples.nd (pi_either (pv 0)) (blkOk_by (own := [("item", 1)]) (N := N_as_tuples) (sc := defScope s_as_tuples) (by decide +kernel)) (fun _ _ _ _ _ => pg_name (i := 1) sc_as_tuples.nd rfl (.inl rfl)) (fun _ _ _ _ _ => pts_nil) (fun _ _ _ _ _ => (pe_callC C_as_tuples (hr.mono (by first | decide | exact Nat.le_refl _ | omega)) (by rfl) (pa_cons (pv 1) pa_nil)))) pa_nil)))) pss_nil)
  (pss_one (ps_ret (pv 0)))), ?_⟩)
    · obtain ⟨x, d, rfl, _⟩ := h
      rfl
    · obtain ⟨x, d, rfl, hx, hf, q⟩ := h
      have hs := sizeLine_eq
      refine ⟨_, rfl, (by show 2 ≤ sizeLine; omega), fun tp htp => ?_⟩
      dsimp only [tNil]
      have s1 : Same H (upd H tp (.tup [.ty "list", .ty "tuple"])) := same_upd htp
      have etp : upd H tp (.tup [.ty "list", .ty "tuple"]) tp = some (.tup [.ty "list", .ty "tuple"]) := upd_same
      generalize upd H tp (.tup [.ty "list", .ty "tuple"]) = H1 at s1 etp ⊢
      have hx1 := dp_same s1 hx
      have ty := dp_tyx hx1
      have pr : Paired ClsV [V.ty "list", V.ty "tuple"] [Value.type "list", Value.type "tuple"] := .cons (.ty _) (.cons (.ty _) .nil)
      cases d with
      | none => exact ⟨_, _, _, _, _, false, rfl, etp, pr, ty, kit_no (t := "NoneType") (by decide +kernel) (by decide +kernel), _, rfl, ifF rfl ⟨_, rfl, q _ _ s1 ⟨hp0, reg0, by cases hx; exact .non⟩⟩⟩
      | bool b => exact ⟨_, _, _, _, _, false, rfl, etp, pr, ty, kit_no (t := "bool") (by decide +kernel) (by decide +kernel), _, rfl, ifF rfl ⟨_, rfl, q _ _ s1 ⟨hp0, reg0, by cases hx; exact .bl _⟩⟩⟩
      | int b => exact ⟨_, _, _, _, _, false, rfl, etp, pr, ty, kit_no (t := "int") (by decide +kernel) (by decide +kernel), _, rfl, ifF rfl ⟨_, rfl, q _ _ s1 ⟨hp0, reg0, by cases hx; exact .int _⟩⟩⟩
      | str b => exact ⟨_, _, _, _, _, false, rfl, etp, pr, ty, kit_no (t := "str") (by decide +kernel) (by decide +kernel), _, rfl, ifF rfl ⟨_, rfl, q _ _ s1 ⟨hp0, reg0, by cases hx; exact .str _⟩⟩⟩
      | dict _ => exact hf.elim
      | list ds =>
        refine ⟨_, _, _, _, _, true, rfl, etp, pr, ty, kit_li, _, rfl, ifT rfl ?_⟩
        cases hx1 with
        | @lst a xs _ hsq hxs =>
        refine ⟨_, rfl, a, rfl, .inl ⟨⟨_, hsq⟩, fun D hD => ?_⟩⟩
        refine lc_tups walk_list (fun H' s' => sqL_same s' hsq) hxs hf.2 hf.1 hD (fun H' vs G' s' eD r' d' => ?_)
        exact ⟨D, vs, rfl, .inl ⟨.inl (.inl eD), fun l hl => fin_tups q s1 s' r' d' hl⟩⟩
      | tuple ds =>
        refine ⟨_, _, _, _, _, true, rfl, etp, pr, ty, kit_tu, _, rfl, ifT rfl ?_⟩
        cases hx1 with
        | @tup a xs _ hsq hxs =>
        refine ⟨_, rfl, a, rfl, .inr ⟨⟨_, hsq⟩, fun D hD => ?_⟩⟩
        refine lc_tups walk_tup (fun H' s' => same_seqT s' hsq) hxs hf.2 hf.1 hD (fun H' vs G' s' eD r' d' => ?_)
        exact ⟨D, vs, rfl, .inl ⟨.inl (.inl eD), fun l hl => fin_tups q s1 s' r' d' hl⟩⟩
end

/-! ### House.__init__ -/
def cut (H : Hp) (x : Addr) : Hp := fun b => if b = x then none else H b
theorem cut_ne {H : Hp} {x b : Addr} (h : b ≠ x) : cut H x b = H b := if_neg h
mutual
theorem dp_cut {K : PySem.W.Frag} {H : Hp} {x C dx : Addr} {fs : List (Str × V)} (hx : H x = some (.ins C dx fs)) : ∀ {v : V} {d : PyData}, Dp K H v d → Dp K (cut H x) v d
  | _, _, .non => .non
  | _, _, .bl b => .bl b
  | _, _, .int i => .int i
  | _, _, .str x => .str x
  | _, _, .lst (a := a) h hs => .lst (by
      rcases h with (q | ⟨o, q⟩) | q
      · refine .inl (.inl ?_)
        rw [cut_ne (fun z => by rw [z, hx] at q; cases q)]
        exact q
      · refine .inl (.inr ⟨o, ?_⟩)
        rw [cut_ne (fun z => by rw [z, hx] at q; cases q)]
        exact q
      · exact .inr q) (dpa_cut hx hs)
  | _, _, .tup (a := a) h hs => .tup (by
      rcases h with (q | ⟨o, q⟩) | q
      · refine .inl (.inl ?_)
        rw [cut_ne (fun z => by rw [z, hx] at q; cases q)]
        exact q
      · refine .inl (.inr ⟨o, ?_⟩)
        rw [cut_ne (fun z => by rw [z, hx] at q; cases q)]
        exact q
      · exact .inr q) (dpa_cut hx hs)
theorem dpa_cut {K : PySem.W.Frag} {H : Hp} {x C dx : Addr} {fs : List (Str × V)} (hx : H x = some (.ins C dx fs)) : ∀ {vs : List V} {ds : List PyData}, DpAll K H vs ds → DpAll K (cut H x) vs ds
  | _, _, .nil => .nil
  | _, _, .cons h t => .cons (dp_cut hx h) (dpa_cut hx t)
end
theorem cut_same {H H' : Hp} {x : Addr} (k : Kp x H H') : Same (cut H x) H' := fun b o e => by
  by_cases c : b = x
  · unfold cut at e
    rw [if_pos c] at e
    cases e
  · rw [cut_ne c] at e
    exact k b o c e
/-- what the head says of the class House, at C -/
structure HouT (K : PySem.W.Frag) (mg : Str → Option Value) (C : Addr) : Prop where
  cl : Cls K C
  n1 : NoAttr K C "goods"
  n2 : NoAttr K C "members"
  n3 : NoAttr K C "talks"
  n4 : NoAttr K C "recipes"
  n5 : NoAttr K C "orders"
  gC : mg "House" = some (.ref C)
/-- the parts of a house, as they were handed in -/
structure HParts where
  d1 : PyData
  d2 : PyData
  d3 : PyData
  d4 : PyData
  d5 : PyData
def HParts.fits (n : Nat) (p : HParts) : Prop := Fits n p.d1 ∧ Fits n p.d2 ∧ Fits n p.d3 ∧ Fits n p.d4 ∧ Fits n p.d5
def houFs (u1 u2 u3 u4 u5 : V) : List (Str × V) := [("goods", u1), ("members", u2), ("talks", u3), ("recipes", u4), ("orders", u5)]
/-- a house whose parts, as tuples, are in G -/
def HouIn (K : PySem.W.Frag) (C : Addr) (G H : Hp) (x : Addr) (p : HParts) : Prop := ∃ (dx : Addr) (u1 u2 u3 u4 u5 : V), H x = some (.ins C dx (houFs u1 u2 u3 u4 u5)) ∧ Dp K G u1 (tupD p.d1) ∧ Dp K G u2 (tupD p.d2) ∧ Dp K G u3 (tupD p.d3) ∧ Dp K G u4 (tupD p.d4) ∧ Dp K G u5 (tupD p.d5)
def spHInit (K : PySem.W.Frag) (C : Addr) (n : Nat) : Sp := fun vs H Q _ => ∃ (x dx : Addr) (v1 v2 v3 v4 v5 : V) (p : HParts), vs = [.ref x, v1, v2, v3, v4, v5] ∧ H x = some (.ins C dx []) ∧ Dp K H v1 p.d1 ∧ Dp K H v2 p.d2 ∧ Dp K H v3 p.d3 ∧ Dp K H v4 p.d4 ∧ Dp K H v5 p.d5 ∧ p.fits n ∧
  ∀ H' G, Kp x H H' → Reg H H' G [x] → HouIn K C G H' x p → Q .non H'
/-- one field more -/
theorem fld_step {K : PySem.W.Frag} {H Hc H' G : Hp} {x C dx : Addr} {fs0 fs fs' : List (Str × V)} {u : V} {d : PyData} (hx0 : H x = some (.ins C dx fs0)) (k : Kp x H Hc) (hx : Hc x = some (.ins C dx fs)) (rG : Reg H Hc G [x]) (s' : Same Hc H') (hm : Made K Hc H' u d) :
    Kp x H (upd H' x (.ins C dx fs')) ∧ ∃ G', Reg H (upd H' x (.ins C dx fs')) G' [x] ∧ Same G G' ∧ Dp K G' u d := by
  obtain ⟨G1, r1, d1⟩ := hm
  obtain ⟨r2, s2⟩ := rG.unD (fun b n => by
    by_cases c : b = x
    · rw [c, hx]
      exact fun z => by cases z
    · intro z
      cases e : H b with
      | none => exact n e
      | some o =>
        have q := k b o c e
        rw [z] at q
        cases q) s' r1 (by
    intro a ha z
    rw [List.mem_singleton.mp ha, hx] at z
    cases z)
  refine ⟨fun b o c e => ?_, _, r2.put (List.mem_singleton.mpr rfl), un2_l, dp_same s2 d1⟩
  rw [upd_ne c]
  exact s' _ _ (k b o c e)
section
variable {P : Program} {w : World} {K : PySem.W.Frag} {mg : Str → Option Value} {base : Heap} {f C : Addr} {fd : FuncData}
abbrev FnM (K : PySem.W.Frag) (x qual : Str) (st : Stmt) (dvs : List V) (f : Addr) (fd : FuncData) : Prop := FunD K x qual (defArgs st) (defBody st) (defScope st) dvs [] f fd
theorem ok_House_init (T : HouT K mg C) (n : Nat) (F : FnM K "__init__" "House.__init__" s_House___init__ [] f fd) (C_as_tuples : Callee P w K mg base CX0 "as_tuples" ["part"] (n + 1) (spTuples K n)) :
    FnOk P w K mg base CX0 (n + 2) f fd ["self", "goods", "members", "talks", "recipes", "orders"] (spHInit K C n) := by
  refine F.ok sc_House___init__ (fun vs H Q E h => ?_) (fun cdv A outer s H vs Q E hr h => ⟨_, PSs.nox (pss_cons (ps_fld (pv 0) (pe_callC C_as_tuples (hr.mono (by first | decide | exact Nat.le_refl _ | omega)) (by rfl) (pa_cons (pv 1) pa_nil)) rfl)
  (pss_cons (ps_fld (pv 0) (pe_callC C_as_tuples (hr.mono (by first | decide | exact Nat.le_refl _ | omega)) (by rfl) (pa_cons (pv 2) pa_nil)) rfl)
  (pss_cons (ps_fld (pv 0) (pe_callC C_as_tuples (hr.mono (by first | decide | exact Nat.le_refl _ | omega)) (by rfl) (pa_cons (pv 3) pa_nil)) rfl)
  (pss_cons (ps_fld (pv 0) (pe_callC C_as_tuples (hr.mono (by first | decide | exact Nat.le_refl _ | omega)) (by rfl) (pa_cons (pv 4) pa_nil)) rfl)
  (pss_one (ps_fld (pv 0) (pe_callC C_as_tuples (hr.mono (by first | decide | exact Nat.le_refl _ | omega)) (by rfl) (pa_cons (pv 5) pa_nil)) rfl)))))), ?_⟩)
  · obtain ⟨x, dx, v1, v2, v3, v4, v5, p, rfl, _⟩ := h
    rfl
  · obtain ⟨x, dx, v1, v2, v3, v4, v5, p, rfl, hx, h1, h2, h3, h4, h5, ⟨f1, f2, f3, f4, f5⟩, q⟩ := h
    have c1 := dp_cut hx h1
    have c2 := dp_cut hx h2
    have c3 := dp_cut hx h3
    have c4 := dp_cut hx h4
    have c5 := dp_cut hx h5
    have r0 : Reg H H hp0 [x] := reg0
    refine ⟨_, rfl, v1, p.d1, rfl, h1, f1, fun u1 H1 s1 m1 => ?_⟩
    have e1 := s1 _ _ hx
    refine ⟨_, rfl, x, C, dx, _, rfl, e1, T.cl, T.n1, (by show 0 < 1000; omega), ?_⟩
    obtain ⟨k1, G1, r1, sg1, d1⟩ := fld_step (fs' := putF "goods" u1 ([])) hx (Kp.refl) hx r0 s1 m1
    have x1 : upd H1 x (.ins C dx (putF "goods" u1 ([]))) x = some (.ins C dx (putF "goods" u1 ([]))) := upd_same
    generalize upd H1 x (.ins C dx (putF "goods" u1 ([]))) = K1 at k1 r1 x1 ⊢
    refine ⟨_, rfl, v2, p.d2, rfl, (dp_same (cut_same k1) c2), f2, fun u2 H2 s2 m2 => ?_⟩
    have e2 := s2 _ _ x1
    refine ⟨_, rfl, x, C, dx, _, rfl, e2, T.cl, T.n2, (by show 1 < 1000; omega), ?_⟩
    obtain ⟨k2, G2, r2, sg2, d2⟩ := fld_step (fs' := putF "members" u2 (putF "goods" u1 ([]))) hx k1 x1 r1 s2 m2
    have x2 : upd H2 x (.ins C dx (putF "members" u2 (putF "goods" u1 ([])))) x = some (.ins C dx (putF "members" u2 (putF "goods" u1 ([])))) := upd_same
    generalize upd H2 x (.ins C dx (putF "members" u2 (putF "goods" u1 ([])))) = K2 at k2 r2 x2 ⊢
    refine ⟨_, rfl, v3, p.d3, rfl, (dp_same (cut_same k2) c3), f3, fun u3 H3 s3 m3 => ?_⟩
    have e3 := s3 _ _ x2
    refine ⟨_, rfl, x, C, dx, _, rfl, e3, T.cl, T.n3, (by show 2 < 1000; omega), ?_⟩
    obtain ⟨k3, G3, r3, sg3, d3⟩ := fld_step (fs' := putF "talks" u3 (putF "members" u2 (putF "goods" u1 ([])))) hx k2 x2 r2 s3 m3
    have x3 : upd H3 x (.ins C dx (putF "talks" u3 (putF "members" u2 (putF "goods" u1 ([]))))) x = some (.ins C dx (putF "talks" u3 (putF "members" u2 (putF "goods" u1 ([]))))) := upd_same
    generalize upd H3 x (.ins C dx (putF "talks" u3 (putF "members" u2 (putF "goods" u1 ([]))))) = K3 at k3 r3 x3 ⊢
    refine ⟨_, rfl, v4, p.d4, rfl, (dp_same (cut_same k3) c4), f4, fun u4 H4 s4 m4 => ?_⟩
    have e4 := s4 _ _ x3
    refine ⟨_, rfl, x, C, dx, _, rfl, e4, T.cl, T.n4, (by show 3 < 1000; omega), ?_⟩
    obtain ⟨k4, G4, r4, sg4, d4⟩ := fld_step (fs' := putF "recipes" u4 (putF "talks" u3 (putF "members" u2 (putF "goods" u1 ([]))))) hx k3 x3 r3 s4 m4
    have x4 : upd H4 x (.ins C dx (putF "recipes" u4 (putF "talks" u3 (putF "members" u2 (putF "goods" u1 ([])))))) x = some (.ins C dx (putF "recipes" u4 (putF "talks" u3 (putF "members" u2 (putF "goods" u1 ([])))))) := upd_same
    generalize upd H4 x (.ins C dx (putF "recipes" u4 (putF "talks" u3 (putF "members" u2 (putF "goods" u1 ([])))))) = K4 at k4 r4 x4 ⊢
    refine ⟨_, rfl, v5, p.d5, rfl, (dp_same (cut_same k4) c5), f5, fun u5 H5 s5 m5 => ?_⟩
    have e5 := s5 _ _ x4
    refine ⟨_, rfl, x, C, dx, _, rfl, e5, T.cl, T.n5, (by show 4 < 1000; omega), ?_⟩
    obtain ⟨k5, G5, r5, sg5, d5⟩ := fld_step (fs' := putF "orders" u5 (putF "recipes" u4 (putF "talks" u3 (putF "members" u2 (putF "goods" u1 ([])))))) hx k4 x4 r4 s5 m5
    have x5 : upd H5 x (.ins C dx (putF "orders" u5 (putF "recipes" u4 (putF "talks" u3 (putF "members" u2 (putF "goods" u1 ([]))))))) x = some (.ins C dx (putF "orders" u5 (putF "recipes" u4 (putF "talks" u3 (putF "members" u2 (putF "goods" u1 ([]))))))) := upd_same
    generalize upd H5 x (.ins C dx (putF "orders" u5 (putF "recipes" u4 (putF "talks" u3 (putF "members" u2 (putF "goods" u1 ([]))))))) = K5 at k5 r5 x5 ⊢
    exact q K5 G5 k5 r5 ⟨dx, u1, u2, u3, u4, u5, x5, dp_same (((sg2.trans sg3).trans sg4).trans sg5) d1, dp_same ((sg3.trans sg4).trans sg5) d2, dp_same (sg4.trans sg5) d3, dp_same sg5 d4, d5⟩
end

/-! ### what plans earn: the mirror, and what can be said of it -/
structure Reci where
  name : Str
  cost : Int
  times : Int
  needs : List Nat
  takes : List (Nat × Int)
  gives : List (Nat × Int)
structure Ordr where
  name : Str
  pay : Int
  takes : List (Nat × Int)
abbrev Memb := Str × List (Nat × Int)
structure Hous where
  goods : List Str
  members : List Memb
  talks : List (Nat × Int)
  recipes : List Reci
  orders : List Ordr
def putL : List Int → List (Nat × Int) → List Int
  | st, [] => st
  | st, p :: l => putL (st.set p.1 (st.getD p.1 0 + p.2)) l
def takeL : List Int → List (Nat × Int) → List Int
  | st, [] => st
  | st, p :: l => takeL (st.set p.1 (st.getD p.1 0 - p.2)) l
def hasAll (st : List Int) (l : List (Nat × Int)) : Bool := l.all fun p => decide (p.2 ≤ st.getD p.1 0)
def runsGo (r : Reci) : Nat → List Int → Option (List Int)
  | 0, st => some st
  | n + 1, st => if hasAll st r.takes = true then runsGo r n (putL (takeL st r.takes) r.gives) else none
def hasNeeded (g : List Nat) (r : Reci) : Bool := r.needs.all fun k => decide (k ∈ g)
def recGo (g : List Nat) : List Reci → List Int → List Int → Option (List Int)
  | r :: rs, n :: ns, st => if 0 < n ∧ hasNeeded g r = false then none else
      (match runsGo r n.toNat st with
        | none => none
        | some st' => recGo g rs ns st')
  | _, _, st => some st
def heldBy (h : Hous) (m : Nat) : List (Nat × Int) := (h.members.getD m (default, [])).2
def ordAt (h : Hous) (o : Int) : Ordr := h.orders.getD o.toNat ⟨default, 0, []⟩
def zeros (h : Hous) : List Int := List.replicate h.goods.length 0
def stock0 (h : Hous) (g : List Nat) : List Int := g.foldl (fun st m => putL st (heldBy h m)) (zeros h)
def stockAfter (h : Hous) (g : List Nat) (runs : List Int) : Option (List Int) := recGo g h.recipes runs (stock0 h g)
def takenV (h : Hous) (filled : List Int) : List Int := filled.foldl (fun st o => putL st (ordAt h o).takes) (zeros h)
def enumV (l : List Int) : List (Nat × Int) := (List.range l.length).map fun i => (i, l.getD i 0)
def takenL (h : Hous) (filled : List Int) : List (Nat × Int) := enumV (takenV h filled)
def payOf (h : Hous) (filled : List Int) : Int := (filled.map fun o => (ordAt h o).pay).sum
def costOf (h : Hous) (runs : List Int) : Int := ((runs.zip h.recipes).map fun p => p.1 * p.2.cost).sum
def areRuns (h : Hous) (runs : List Int) : Bool := decide (runs.length = h.recipes.length) && (runs.zip h.recipes).all fun p => decide (0 ≤ p.1) && decide (p.1 ≤ p.2.times)
def ascB (l : List Int) : Bool := (List.range (l.length - 1)).all fun i => decide (l.getD i 0 < l.getD (i + 1) 0)
def areFilled (n : Nat) (l : List Int) : Bool := ascB l && (l.isEmpty || (decide (0 ≤ l.getD 0 0) && decide (l.getD (l.length - 1) 0 < (n : Int))))
def earnM (h : Hous) (g : List Nat) (runs filled : List Int) : Option Int :=
  if areRuns h runs = true ∧ areFilled h.orders.length filled = true then
    (match stockAfter h g runs with
      | none => none
      | some st => if hasAll st (takenL h filled) = true then some (payOf h filled - costOf h runs) else none)
  else none
def allRuns : List Reci → List (List Int) → List (List Int)
  | [], found => found
  | r :: rs, found => allRuns rs (found.flatMap fun runs => (List.range (r.times + 1).toNat).map fun (k : Nat) => runs ++ [(k : Int)])
def ascT : Nat → Nat → List (List Int) → List (List Int)
  | _, 0, found => found
  | c, k + 1, found => ascT c k ((([(k : Int)] :: found.map fun b => (k : Int) :: b)) ++ found)
def ascending (c : Nat) : List (List Int) := ascT c c []
def allFilled (n : Nat) : List (List Int) := [] :: ascending n
abbrev Best := Option (Int × List Int × List Int)
/-- a plan is better than the best one so far -/
def better (b : Best) (v : Int) : Bool := match b with
  | none => true
  | some x => decide (x.1 < v)
def pick (runs st : List Int) (cost : Int) (b : Best) (f : List Int × List (Nat × Int) × Int) : Best :=
  if better b (f.2.2 - cost) && hasAll st f.2.1 then some (f.2.2 - cost, runs, f.1) else b
def fillings (h : Hous) : List (List Int × List (Nat × Int) × Int) := (allFilled h.orders.length).map fun f => (f, takenL h f, payOf h f)
def pickRuns (h : Hous) (g : List Nat) (b : Best) (runs : List Int) : Best := match stockAfter h g runs with
  | none => b
  | some st => (fillings h).foldl (pick runs st (costOf h runs)) b
def bestM (h : Hous) (g : List Nat) : Best := (allRuns h.recipes [[]]).foldl (pickRuns h g) none
/-! the best plan -/
def feas (h : Hous) (g : List Nat) (x : Int × List Int × List Int) : Prop :=
  x.2.1 ∈ allRuns h.recipes [[]] ∧ x.2.2 ∈ allFilled h.orders.length ∧ ∃ st, stockAfter h g x.2.1 = some st ∧ hasAll st (takenL h x.2.2) = true ∧ x.1 = payOf h x.2.2 - costOf h x.2.1
def leB (b c : Best) : Prop := ∀ x, b = some x → ∃ y, c = some y ∧ x.1 ≤ y.1
theorem leB.refl (b : Best) : leB b b := fun x e => ⟨x, e, Int.le_refl _⟩
theorem leB.trans {a b c : Best} (p : leB a b) (q : leB b c) : leB a c := fun x e => by
  obtain ⟨y, e1, l1⟩ := p x e
  obtain ⟨z, e2, l2⟩ := q y e1
  exact ⟨z, e2, Int.le_trans l1 l2⟩
theorem pick_le (runs st : List Int) (cost : Int) (b : Best) (f : List Int × List (Nat × Int) × Int) : leB b (pick runs st cost b f) := by
  intro x e
  unfold pick
  split
  · rename_i c
    rw [e] at c
    have c2 := (Bool.and_eq_true_iff.mp c).1
    have c3 : x.1 < f.2.2 - cost := of_decide_eq_true c2
    exact ⟨_, rfl, Int.le_of_lt c3⟩
  · exact ⟨x, e, Int.le_refl _⟩
theorem pick_get (runs st : List Int) (cost : Int) (b : Best) (f : List Int × List (Nat × Int) × Int) (h : hasAll st f.2.1 = true) : leB (some (f.2.2 - cost, runs, f.1)) (pick runs st cost b f) := by
  intro x e
  cases e
  unfold pick
  rw [h, Bool.and_true]
  split
  · exact ⟨_, rfl, Int.le_refl _⟩
  · rename_i c
    cases b with
    | none => exact absurd rfl c
    | some y =>
      have c2 : ¬ y.1 < f.2.2 - cost := fun z => c (decide_eq_true z)
      exact ⟨y, rfl, by show f.2.2 - cost ≤ y.1; omega⟩
theorem fold_le {β : Type} (step : Best → β → Best) (h : ∀ b c, leB b (step b c)) : ∀ (l : List β) (b : Best), leB b (l.foldl step b)
  | [], b => leB.refl b
  | c :: l, b => (h b c).trans (fold_le step h l _)
theorem fold_get {β : Type} (step : Best → β → Best) (h : ∀ b c, leB b (step b c)) {x : Best} : ∀ (l : List β) (b : Best) (c : β), c ∈ l → (∀ b, leB x (step b c)) → leB x (l.foldl step b)
  | d :: l, b, c, hc, hx => by
    rcases List.mem_cons.mp hc with e | hc
    · subst e
      exact (hx b).trans (fold_le step h l _)
    · exact fold_get step h l _ c hc hx
theorem fold_inv {α β : Type} {I : α → Prop} (step : α → β → α) : ∀ (l : List β) (b : α), I b → (∀ b c, c ∈ l → I b → I (step b c)) → I (l.foldl step b)
  | [], _, hb, _ => hb
  | c :: l, b, hb, hs => fold_inv step l _ (hs b c List.mem_cons_self hb) fun b' c' m => hs b' c' (List.mem_cons_of_mem _ m)
theorem pickRuns_le (h : Hous) (g : List Nat) (b : Best) (runs : List Int) : leB b (pickRuns h g b runs) := by
  unfold pickRuns
  split
  · exact leB.refl b
  · exact fold_le _ (fun b c => pick_le _ _ _ b c) _ _
theorem best_max {h : Hous} {g : List Nat} {x : Int × List Int × List Int} (f : feas h g x) : ∃ y, bestM h g = some y ∧ x.1 ≤ y.1 := by
  obtain ⟨h1, h2, st, h3, h4, h5⟩ := f
  refine fold_get (x := some x) (pickRuns h g) (fun b c => pickRuns_le h g b c) _ none x.2.1 h1 (fun b => ?_) x rfl
  unfold pickRuns
  rw [h3]
  refine fold_get (x := some x) _ (fun b c => pick_le _ _ _ b c) _ b (x.2.2, takenL h x.2.2, payOf h x.2.2) (List.mem_map.mpr ⟨_, h2, rfl⟩) fun b => ?_
  have e : x = (payOf h x.2.2 - costOf h x.2.1, x.2.1, x.2.2) := by
    rw [← h5]
  have z := pick_get x.2.1 st (costOf h x.2.1) b (x.2.2, takenL h x.2.2, payOf h x.2.2) h4
  intro y hy
  rw [e] at hy
  exact z y hy
theorem best_feas {h : Hous} {g : List Nat} {x : Int × List Int × List Int} (e : bestM h g = some x) : feas h g x := by
  refine fold_inv (I := fun b : Best => ∀ x, b = some x → feas h g x) (pickRuns h g) (allRuns h.recipes [[]]) none (fun x z => by cases z) (fun b runs hr hb => ?_) x e
  unfold pickRuns
  split
  · exact hb
  · rename_i st hst
    refine fold_inv (I := fun b : Best => ∀ x, b = some x → feas h g x) (pick runs st (costOf h runs)) (fillings h) b hb (fun b f hf hb x hx => ?_)
    unfold pick at hx
    split at hx
    · rename_i c
      obtain ⟨f0, m0, e0⟩ := List.mem_map.mp hf
      subst e0
      cases hx
      exact ⟨hr, m0, st, hst, (Bool.and_eq_true_iff.mp c).2, rfl⟩
    · exact hb x hx

/-! ### more members, more goods, more orders: no less -/
def leL (a b : List Int) : Prop := a.length = b.length ∧ ∀ i, a.getD i 0 ≤ b.getD i 0
theorem leL.refl (a : List Int) : leL a a := ⟨rfl, fun _ => Int.le_refl _⟩
theorem leL.trans {a b c : List Int} (p : leL a b) (q : leL b c) : leL a c := ⟨p.1.trans q.1, fun i => Int.le_trans (p.2 i) (q.2 i)⟩
theorem getD_set {l : List Int} {i j : Nat} {x : Int} : (l.set i x).getD j 0 = if i = j ∧ i < l.length then x else l.getD j 0 := by
  simp only [List.getD_eq_getElem?_getD, List.getElem?_set]
  by_cases c : i = j
  · subst c
    by_cases c2 : i < l.length
    · simp [c2]
    · simp [c2]
  · simp [c]
theorem leL.set {a b : List Int} (p : leL a b) (i : Nat) {x y : Int} (h : x ≤ y) : leL (a.set i x) (b.set i y) := by
  refine ⟨by rw [List.length_set, List.length_set, p.1], fun j => ?_⟩
  rw [getD_set, getD_set, p.1]
  split
  · exact h
  · exact p.2 j
theorem putL_mono : ∀ (l : List (Nat × Int)) {a b : List Int}, leL a b → leL (putL a l) (putL b l)
  | [], _, _, p => p
  | q :: l, a, b, p => by
    rw [putL, putL]
    exact putL_mono l (p.set _ (by have := p.2 q.1; omega))
theorem takeL_mono : ∀ (l : List (Nat × Int)) {a b : List Int}, leL a b → leL (takeL a l) (takeL b l)
  | [], _, _, p => p
  | q :: l, a, b, p => by
    rw [takeL, takeL]
    exact takeL_mono l (p.set _ (by have := p.2 q.1; omega))
theorem putL_len : ∀ (l : List (Nat × Int)) (a : List Int), (putL a l).length = a.length
  | [], _ => rfl
  | q :: l, a => by rw [putL, putL_len l, List.length_set]
theorem takeL_len : ∀ (l : List (Nat × Int)) (a : List Int), (takeL a l).length = a.length
  | [], _ => rfl
  | q :: l, a => by rw [takeL, takeL_len l, List.length_set]
theorem putL_up : ∀ (l : List (Nat × Int)) (a : List Int), (∀ p ∈ l, 0 ≤ p.2) → leL a (putL a l)
  | [], a, _ => leL.refl a
  | q :: l, a, h => by
    rw [putL]
    refine leL.trans ⟨(List.length_set ..).symm, fun j => ?_⟩ (putL_up l _ fun p hp => h p (List.mem_cons_of_mem _ hp))
    rw [getD_set]
    split
    · rename_i c
      have := h q List.mem_cons_self
      rw [← c.1]
      omega
    · exact Int.le_refl _
theorem hasAll_mono {a b : List Int} (p : leL a b) {l : List (Nat × Int)} (h : hasAll a l = true) : hasAll b l = true := by
  unfold hasAll at h ⊢
  refine List.all_eq_true.mpr fun q hq => ?_
  have := of_decide_eq_true (List.all_eq_true.mp h q hq)
  have := p.2 q.1
  exact decide_eq_true (by omega)
theorem runsGo_mono (r : Reci) : ∀ (n : Nat) {a b a' : List Int}, leL a b → runsGo r n a = some a' → ∃ b', runsGo r n b = some b' ∧ leL a' b'
  | 0, a, b, a', p, e => by
    cases e
    exact ⟨b, rfl, p⟩
  | n + 1, a, b, a', p, e => by
    rw [runsGo] at e ⊢
    split at e
    · rename_i c
      rw [if_pos (hasAll_mono p c)]
      exact runsGo_mono r n (putL_mono _ (takeL_mono _ p)) e
    · cases e
theorem hasNeeded_mono {g g' : List Nat} (s : ∀ k ∈ g, k ∈ g') {r : Reci} (h : hasNeeded g r = true) : hasNeeded g' r = true := by
  unfold hasNeeded at h ⊢
  exact List.all_eq_true.mpr fun k hk => decide_eq_true (s _ (of_decide_eq_true (List.all_eq_true.mp h k hk)))
theorem recGo_mono {g g' : List Nat} (s : ∀ k ∈ g, k ∈ g') : ∀ (rs : List Reci) (ns : List Int) {a b a' : List Int}, leL a b → recGo g rs ns a = some a' → ∃ b', recGo g' rs ns b = some b' ∧ leL a' b'
  | [], ns, a, b, a', p, e => by
    rw [recGo] at e ⊢
    · cases e
      exact ⟨b, rfl, p⟩
    · intro _ _ _ _ z; cases z
    · intro _ _ _ _ z; cases z
  | r :: rs, [], a, b, a', p, e => by
    rw [recGo] at e ⊢
    · cases e
      exact ⟨b, rfl, p⟩
    · intro _ _ _ _ _ z; cases z
    · intro _ _ _ _ _ z; cases z
  | r :: rs, n :: ns, a, b, a', p, e => by
    rw [recGo] at e ⊢
    split at e
    · cases e
    · rename_i c
      rw [if_neg (fun z => c ⟨z.1, by
        cases y : hasNeeded g r with
        | false => rfl
        | true =>
          rw [hasNeeded_mono s y] at z
          cases z.2⟩)]
      cases e1 : runsGo r n.toNat a with
      | none =>
        rw [e1] at e
        cases e
      | some a1 =>
        rw [e1] at e
        obtain ⟨b1, e2, p1⟩ := runsGo_mono r n.toNat p e1
        rw [e2]
        exact recGo_mono s rs ns p1 e
theorem stock_mono (f f' : Nat → List (Nat × Int)) (hf : ∀ m a b, leL a b → leL (putL a (f m)) (putL b (f' m))) : ∀ (g : List Nat) {a b : List Int}, leL a b → leL (g.foldl (fun st m => putL st (f m)) a) (g.foldl (fun st m => putL st (f' m)) b)
  | [], _, _, p => p
  | m :: g, _, _, p => stock_mono f f' hf g (hf m _ _ p)
theorem stock_sub {f : Nat → List (Nat × Int)} (hf : ∀ m, ∀ p ∈ f m, 0 ≤ p.2) {l g : List Nat} (s : l.Sublist g) : ∀ {a b : List Int}, leL a b → leL (l.foldl (fun st m => putL st (f m)) a) (g.foldl (fun st m => putL st (f m)) b) := by
  induction s with
  | slnil => exact fun p => p
  | cons m _ ih => exact fun p => ih (p.trans (putL_up _ _ (hf m)))
  | cons_cons m _ ih => exact fun p => ih (putL_mono _ p)
/-- what a greater group, or a richer house, can do as well -/
theorem after_mono {h h' : Hous} {l g : List Nat} (er : h'.recipes = h.recipes) (s : ∀ k ∈ l, k ∈ g) (p : leL (stock0 h l) (stock0 h' g)) {runs st : List Int} (e : stockAfter h l runs = some st) : ∃ st', stockAfter h' g runs = some st' ∧ leL st st' := by
  unfold stockAfter at e ⊢
  rw [er]
  exact recGo_mono s _ _ p e
/-- of another house with at least the orders -/
theorem feas_mono {h h' : Hous} {l g : List Nat} {x : Int × List Int × List Int} (er : h'.recipes = h.recipes) (s : ∀ k ∈ l, k ∈ g) (p : leL (stock0 h l) (stock0 h' g))
    (ho : x.2.2 ∈ allFilled h'.orders.length) (ht : takenL h' x.2.2 = takenL h x.2.2) (hp : payOf h' x.2.2 = payOf h x.2.2) (f : feas h l x) : feas h' g x := by
  obtain ⟨h1, h2, st, h3, h4, h5⟩ := f
  obtain ⟨st', e, q⟩ := after_mono er s p h3
  refine ⟨by rw [er]; exact h1, ho, st', e, ?_, ?_⟩
  · rw [ht]
    exact hasAll_mono q h4
  · rw [hp, h5]
    unfold costOf
    rw [er]
/-! enumerations -/
theorem ascT_acc : ∀ (c k : Nat) (found : List (List Int)) (x : List Int), x ∈ found → x ∈ ascT c k found
  | _, 0, _, _, h => h
  | c, k + 1, found, x, h => by
    rw [ascT]
    exact ascT_acc c k _ x (List.mem_append_right _ h)
/-- ascending, from lo on, below hi -/
def Asc (lo hi : Int) : List Int → Prop
  | [] => True
  | x :: l => lo ≤ x ∧ x < hi ∧ Asc (x + 1) hi l
theorem Asc.mono {lo lo' hi hi' : Int} (h1 : lo' ≤ lo) (h2 : hi ≤ hi') : ∀ {l : List Int}, Asc lo hi l → Asc lo' hi' l
  | [], _ => trivial
  | x :: l, ⟨a, b, c⟩ => ⟨by omega, by omega, c.mono (Int.le_refl _) h2⟩
theorem ascT_sound {hi : Int} : ∀ (c k : Nat) (found : List (List Int)), (k : Int) ≤ hi → (∀ x ∈ found, x ≠ [] ∧ Asc k hi x) → ∀ x ∈ ascT c k found, x ≠ [] ∧ Asc 0 hi x
  | _, 0, found, _, h, x, hx => h x hx
  | c, k + 1, found, hk, h, x, hx => by
    rw [ascT] at hx
    refine ascT_sound c k _ (by omega) (fun y hy => ?_) x hx
    rcases List.mem_append.mp hy with hy | hy
    · rcases List.mem_cons.mp hy with e | hy
      · subst e
        exact ⟨List.cons_ne_nil _ _, Int.le_refl _, by omega, trivial⟩
      · obtain ⟨z, hz, e⟩ := List.mem_map.mp hy
        subst e
        exact ⟨List.cons_ne_nil _ _, Int.le_refl _, by omega, (h z hz).2.mono (by omega) (Int.le_refl _)⟩
    · exact ⟨(h y hy).1, (h y hy).2.mono (by omega) (Int.le_refl _)⟩
theorem ascT_all {hi : Int} : ∀ (c k : Nat) (found : List (List Int)), (∀ x, x ≠ [] → Asc k hi x → x ∈ found) → ∀ x, x ≠ [] → Asc 0 hi x → x ∈ ascT c k found
  | _, 0, found, h, x, hx, ha => h x hx ha
  | c, k + 1, found, h, x, hx, ha => by
    rw [ascT]
    refine ascT_all (hi := hi) c k _ (fun y hy hay => ?_) x hx ha
    cases y with
    | nil => exact absurd rfl hy
    | cons v l =>
      obtain ⟨h1, h2, h3⟩ := hay
      by_cases e : v = (k : Int)
      · subst e
        refine List.mem_append_left _ ?_
        cases l with
        | nil => exact List.mem_cons_self
        | cons u l => exact List.mem_cons_of_mem _ (List.mem_map.mpr ⟨u :: l, h _ (List.cons_ne_nil _ _) h3, rfl⟩)
      · exact List.mem_append_right _ (h _ (List.cons_ne_nil _ _) ⟨by omega, h2, h3⟩)
theorem filled_iff {n : Nat} {x : List Int} : x ∈ allFilled n ↔ Asc 0 n x := by
  unfold allFilled ascending
  constructor
  · intro h
    rcases List.mem_cons.mp h with e | h
    · subst e
      trivial
    · exact (ascT_sound (hi := n) n n [] (Int.le_refl _) (fun _ z => by cases z) x h).2
  · intro h
    cases x with
    | nil => exact List.mem_cons_self
    | cons v l =>
      refine List.mem_cons_of_mem _ (ascT_all (hi := n) n n [] (fun y hy ha => ?_) _ (List.cons_ne_nil _ _) h)
      cases y with
      | nil => exact absurd rfl hy
      | cons u l =>
        have := ha.1
        have := ha.2.1
        omega
theorem asc_sorted {hi : Int} : ∀ {l : List Int} {lo : Int}, Asc lo hi l → ∀ i, i + 1 < l.length → l.getD i 0 < l.getD (i + 1) 0
  | [], _, _, i, h => by simp at h
  | [_], _, _, i, h => by simp at h
  | x :: y :: l, lo, ⟨_, _, h⟩, 0, _ => by
    have := h.1
    show x < y
    omega
  | x :: y :: l, lo, ⟨_, _, h⟩, i + 1, hl => asc_sorted h i (by simp at hl ⊢; omega)
theorem asc_bounds {hi : Int} : ∀ {l : List Int} {lo : Int}, Asc lo hi l → ∀ i, i < l.length → lo ≤ l.getD i 0 ∧ l.getD i 0 < hi
  | [], _, _, i, h => by simp at h
  | x :: l, lo, ⟨h1, h2, _⟩, 0, _ => ⟨h1, h2⟩
  | x :: l, lo, ⟨h1, h2, h⟩, i + 1, hl => by
    have z := asc_bounds h i (by simp at hl ⊢; omega)
    exact ⟨by have := z.1; show lo ≤ l.getD i 0; omega, z.2⟩
theorem filled_ok {n : Nat} {x : List Int} (h : x ∈ allFilled n) : areFilled n x = true := by
  have a := filled_iff.mp h
  unfold areFilled ascB
  refine Bool.and_eq_true_iff.mpr ⟨List.all_eq_true.mpr fun i hi => decide_eq_true (asc_sorted a i (by
    have := List.mem_range.mp hi
    omega)), ?_⟩
  cases x with
  | nil => rfl
  | cons v l =>
    refine Bool.or_eq_true_iff.mpr (.inr (Bool.and_eq_true_iff.mpr ⟨decide_eq_true (asc_bounds a 0 (by simp)).1, decide_eq_true (asc_bounds a _ (by simp)).2⟩))
theorem allRuns_iff : ∀ (rs : List Reci) (found : List (List Int)) (x : List Int), x ∈ allRuns rs found ↔ ∃ a b, a ∈ found ∧ x = a ++ b ∧ b.length = rs.length ∧ ((b.zip rs).all fun p => decide (0 ≤ p.1) && decide (p.1 ≤ p.2.times)) = true
  | [], found, x => by
    rw [allRuns]
    constructor
    · intro h
      exact ⟨x, [], h, (List.append_nil x).symm, rfl, rfl⟩
    · rintro ⟨a, b, h1, h2, h3, _⟩
      have : b = [] := List.eq_nil_of_length_eq_zero h3
      subst this
      rw [h2, List.append_nil]
      exact h1
  | r :: rs, found, x => by
    rw [allRuns, allRuns_iff rs]
    constructor
    · rintro ⟨a, b, h1, h2, h3, h4⟩
      obtain ⟨c, m1, m2⟩ := List.mem_flatMap.mp h1
      obtain ⟨k, m3, m4⟩ := List.mem_map.mp m2
      have hk := List.mem_range.mp m3
      refine ⟨c, (k : Int) :: b, m1, by rw [h2, ← m4, List.append_assoc]; rfl, by simp [h3], ?_⟩
      rw [List.zip_cons_cons, List.all_cons, h4, Bool.and_true]
      exact Bool.and_eq_true_iff.mpr ⟨decide_eq_true (by omega), decide_eq_true (by show (k : Int) ≤ r.times; omega)⟩
    · rintro ⟨a, b, h1, h2, h3, h4⟩
      cases b with
      | nil => simp at h3
      | cons v b =>
        rw [List.zip_cons_cons, List.all_cons] at h4
        obtain ⟨h5, h6⟩ := Bool.and_eq_true_iff.mp h4
        obtain ⟨h7, h8⟩ := Bool.and_eq_true_iff.mp h5
        have h7 := of_decide_eq_true h7
        have h8 : v ≤ r.times := of_decide_eq_true h8
        refine ⟨a ++ [v], b, List.mem_flatMap.mpr ⟨a, h1, List.mem_map.mpr ⟨v.toNat, List.mem_range.mpr (by omega), ?_⟩⟩, by rw [h2, List.append_assoc]; rfl, by simpa using h3, h6⟩
        rw [Int.toNat_of_nonneg h7]
theorem runs_iff {h : Hous} {x : List Int} : x ∈ allRuns h.recipes [[]] ↔ areRuns h x = true := by
  rw [allRuns_iff]
  unfold areRuns
  constructor
  · rintro ⟨a, b, h1, h2, h3, h4⟩
    rw [List.mem_singleton.mp h1, List.nil_append] at h2
    subst h2
    exact Bool.and_eq_true_iff.mpr ⟨decide_eq_true h3, h4⟩
  · intro z
    obtain ⟨z1, z2⟩ := Bool.and_eq_true_iff.mp z
    exact ⟨[], x, List.mem_singleton.mpr rfl, rfl, of_decide_eq_true z1, z2⟩
theorem feas_earn {h : Hous} {g : List Nat} {x : Int × List Int × List Int} (f : feas h g x) : earnM h g x.2.1 x.2.2 = some x.1 := by
  obtain ⟨h1, h2, st, h3, h4, h5⟩ := f
  unfold earnM
  rw [if_pos ⟨runs_iff.mp h1, filled_ok h2⟩, h3]
  show (if hasAll st (takenL h x.2.2) = true then some (payOf h x.2.2 - costOf h x.2.1) else none) = some x.1
  rw [if_pos h4, h5]
/-! nothing at all can be done, and earns nothing -/
theorem recGo_zeros (g : List Nat) : ∀ (rs : List Reci) (k : Nat) (st : List Int), recGo g rs (List.replicate k 0) st = some st
  | [], k, st => by cases k <;> rfl
  | r :: rs, 0, st => rfl
  | r :: rs, k + 1, st => by
    rw [List.replicate_succ, recGo, if_neg (fun z => absurd z.1 (by decide))]
    exact recGo_zeros g rs k st
theorem zeros_le {h : Hous} {g : List Nat} (hh : ∀ m, ∀ p ∈ heldBy h m, 0 ≤ p.2) : leL (zeros h) (stock0 h g) := by
  unfold stock0
  exact stock_sub (f := heldBy h) hh (List.nil_sublist g) (leL.refl _)
theorem feas_none {h : Hous} {g : List Nat} (hh : ∀ m, ∀ p ∈ heldBy h m, 0 ≤ p.2) (ht : ∀ r ∈ h.recipes, 0 ≤ r.times) : feas h g (0, List.replicate h.recipes.length 0, []) := by
  refine ⟨runs_iff.mpr ?_, filled_iff.mpr trivial, stock0 h g, recGo_zeros g _ _ _, ?_, ?_⟩
  · unfold areRuns
    refine Bool.and_eq_true_iff.mpr ⟨decide_eq_true List.length_replicate, List.all_eq_true.mpr fun p hp => ?_⟩
    have z := List.of_mem_zip hp
    have e := List.eq_of_mem_replicate z.1
    rw [e]
    exact Bool.and_eq_true_iff.mpr ⟨rfl, decide_eq_true (ht _ z.2)⟩
  · show hasAll (stock0 h g) (enumV (zeros h)) = true
    unfold hasAll enumV
    refine List.all_eq_true.mpr fun p hp => ?_
    obtain ⟨i, _, e⟩ := List.mem_map.mp hp
    subst e
    exact decide_eq_true ((zeros_le hh).2 i)
  · show (0 : Int) = 0 - costOf h (List.replicate h.recipes.length 0)
    have z : ∀ (rs : List Reci) (k : Nat), (((List.replicate k (0 : Int)).zip rs).map fun p => p.1 * p.2.cost).sum = 0 := by
      intro rs
      induction rs with
      | nil => intro k; simp
      | cons r rs ih =>
        intro k
        cases k with
        | zero => rfl
        | succ k =>
          rw [List.replicate_succ, List.zip_cons_cons, List.map_cons, List.sum_cons, ih k]
          simp
    unfold costOf
    rw [z]
    rfl

/-! ### law k12: the mathematics -/
/-- the same goods, no less of them -/
def Rich (l l' : List (Nat × Int)) : Prop := l.length = l'.length ∧ ∀ (i : Nat) (p p' : Nat × Int), l[i]? = some p → l'[i]? = some p' → p.1 = p'.1 ∧ p.2 ≤ p'.2
theorem Rich.refl (l : List (Nat × Int)) : Rich l l := ⟨rfl, fun i p p' e e' => by
  rw [e] at e'
  cases e'
  exact ⟨rfl, Int.le_refl _⟩⟩
theorem putL_rich : ∀ {l l' : List (Nat × Int)} {a b : List Int}, Rich l l' → leL a b → leL (putL a l) (putL b l')
  | [], [], _, _, _, p => p
  | [], _ :: _, _, _, r, _ => by cases r.1
  | _ :: _, [], _, _, r, _ => by cases r.1
  | p :: l, p' :: l', a, b, r, q => by
    rw [putL, putL]
    have z := r.2 0 p p' rfl rfl
    rw [← z.1]
    exact putL_rich (l := l) (l' := l') ⟨Nat.succ.inj r.1, fun i u u' e e' => r.2 (i + 1) u u' e e'⟩ (q.set _ (by have := q.2 p.1; have := z.2; omega))
theorem mono_sub {h : Hous} {l g : List Nat} {x : Int × List Int × List Int} (hh : ∀ m, ∀ p ∈ heldBy h m, 0 ≤ p.2) (s : l.Sublist g) (f : feas h l x) : feas h g x :=
  feas_mono rfl (fun k hk => s.subset hk) (stock_sub (f := heldBy h) hh s (leL.refl _)) f.2.1 rfl rfl f
theorem mono_rich {h h' : Hous} {g : List Nat} {x : Int × List Int × List Int} (eg : h'.goods = h.goods) (er : h'.recipes = h.recipes) (eo : h'.orders = h.orders) (hr : ∀ m, Rich (heldBy h m) (heldBy h' m)) (f : feas h g x) : feas h' g x := by
  have ez : zeros h' = zeros h := by unfold zeros; rw [eg]
  have ea : ∀ o, ordAt h' o = ordAt h o := fun o => by unfold ordAt; rw [eo]
  refine feas_mono er (fun _ k => k) ?_ (by rw [eo]; exact f.2.1) ?_ ?_ f
  · unfold stock0
    rw [ez]
    exact stock_mono (heldBy h) (heldBy h') (fun m a b q => putL_rich (hr m) q) g (leL.refl _)
  · unfold takenL takenV
    rw [ez]
    simp only [ea]
  · unfold payOf
    simp only [ea]
theorem asc_mem {hi : Int} : ∀ {l : List Int} {lo : Int}, Asc lo hi l → ∀ x ∈ l, lo ≤ x ∧ x < hi
  | [], _, _, _, h => by cases h
  | y :: l, lo, ⟨h1, h2, h3⟩, x, h => by
    rcases List.mem_cons.mp h with e | h
    · subst e
      exact ⟨h1, h2⟩
    · have z := asc_mem h3 x h
      exact ⟨by omega, z.2⟩
theorem mono_order {h h' : Hous} {o : Ordr} {g : List Nat} {x : Int × List Int × List Int} (eg : h'.goods = h.goods) (em : h'.members = h.members) (er : h'.recipes = h.recipes) (eo : h'.orders = h.orders ++ [o]) (f : feas h g x) : feas h' g x := by
  have ez : zeros h' = zeros h := by unfold zeros; rw [eg]
  have eh : ∀ m, heldBy h' m = heldBy h m := fun m => by unfold heldBy; rw [em]
  have a := filled_iff.mp f.2.1
  have ea : ∀ i ∈ x.2.2, ordAt h' i = ordAt h i := fun i hi => by
    have z := asc_mem a i hi
    unfold ordAt
    rw [eo, List.getD_eq_getElem?_getD, List.getD_eq_getElem?_getD, List.getElem?_append_left (by omega)]
  refine feas_mono er (fun _ k => k) ?_ (filled_iff.mpr (a.mono (Int.le_refl _) (by rw [eo, List.length_append]; simp; omega))) ?_ ?_ f
  · unfold stock0
    rw [ez]
    exact stock_mono (heldBy h) (heldBy h') (fun m a b q => by rw [eh]; exact putL_mono _ q) g (leL.refl _)
  · unfold takenL takenV
    rw [ez]
    congr 1
    have z : ∀ (l : List Int) (st : List Int), (∀ i ∈ l, ordAt h' i = ordAt h i) → l.foldl (fun st o => putL st (ordAt h' o).takes) st = l.foldl (fun st o => putL st (ordAt h o).takes) st := by
      intro l
      induction l with
      | nil => intro _ _; rfl
      | cons i l ih =>
        intro st hl
        rw [List.foldl_cons, List.foldl_cons, hl i List.mem_cons_self]
        exact ih _ fun j hj => hl j (List.mem_cons_of_mem _ hj)
    exact z _ _ ea
  · unfold payOf
    congr 1
    exact List.map_congr_left fun i hi => by rw [ea i hi]
theorem best_ge {h h' : Hous} {g g' : List Nat} {x y : Int × List Int × List Int} (hx : bestM h g = some x) (hm : ∀ z, feas h g z → feas h' g' z) (hy : bestM h' g' = some y) : x.1 ≤ y.1 := by
  obtain ⟨y', e, l⟩ := best_max (hm _ (best_feas hx))
  rw [hy] at e
  cases e
  exact l
theorem best_some {h : Hous} {g : List Nat} (hh : ∀ m, ∀ p ∈ heldBy h m, 0 ≤ p.2) (ht : ∀ r ∈ h.recipes, 0 ≤ r.times) : ∃ x, bestM h g = some x ∧ 0 ≤ x.1 := best_max (feas_none hh ht)

/-! ### drawn names, indexes, pairs -/
def spName : Sp := fun vs H Q _ => ∃ p s : Addr, vs = [.ref p] ∧ PoolS H p s ∧ ∀ (z : Str) (H' : Hp), z.length ≤ 100 → Mv p s H H' → Q (.str z) H'
section
variable {P : Program} {w : World} {K : PySem.W.Frag} {mg : Str → Option Value} {base : Heap} {f : Addr} {fd : FuncData}
theorem ok__law_name (M : MB mg) (F : FnP K "_law_name" s__law_name f fd) (C__law_draw : Callee P w K mg base CX0 "_law_draw" ["pool", "size"] 1 spDraw) : FnOk P w K mg base CX0 2 f fd ["pool"] spName := by
  refine F.ok sc__law_name (fun vs H Q E h => ?_) (fun cdv A outer s H vs Q E hr h => ⟨_, PSs.nox (pss_cons (ps_if (pt_cmpR op_gt (pe_callC C__law_draw (hr.mono (by first | decide | exact Nat.le_refl _ | omega)) (by rfl) (pa_cons (pv 0) (pa_cons pe_int pa_nil))) pe_int (nomark _)) (pss_one (ps_ret (pe_ix ix_tup (pe_tup (pa_cons pe_str (pa_cons pe_str (pa_cons pe_str (pa_cons pe_str (pa_cons pe_str (pa_cons pe_str (pa_cons pe_str (pa_cons pe_str pa_nil))))))))) (pe_callC C__law_draw (hr.mono (by first | decide | exact Nat.le_refl _ | omega)) (by rfl) (pa_cons (pv 0) (pa_cons pe_int pa_nil))) (fun _ _ => rfl)))) pss_nil)
  (pss_cons (ps_set (i := 1) sc__law_name.nd rfl (.inl rfl) pe_str)
  (pss_cons (ps_for PassesOwn.never rfl (pi_range1 (by rfl) M.range (pa_cons (pe_op op_add pe_int (pe_callC C__law_draw (hr.mono (by first | decide | exact Nat.le_refl _ | omega)) (by rfl) (pa_cons (pv 0) (pa_cons pe_int pa_nil)))) pa_nil)) (pg_name (i := 2) sc__law_name.nd rfl (.inl rfl)) (pss_one (ps_set (i := 1) sc__law_name.nd rfl (.inl rfl) (pe_op op_add_str (pv 1) (pe_ix ix_str pe_str (pe_callC C__law_draw (hr.mono (by first | decide | exact Nat.le_refl _ | omega)) (by rfl) (pa_cons (pv 0) (pa_cons pe_int pa_nil))) (fun _ _ => rfl))))))
  (pss_cons (ps_if (pt_cmpR op_in_seq (pv 1) (pe_tup (pa_cons pe_str (pa_cons pe_str (pa_cons pe_str (pa_cons pe_str (pa_cons pe_str (pa_cons pe_str (pa_cons pe_str (pa_cons pe_str (pa_cons pe_str (pa_cons pe_str (pa_cons pe_str (pa_cons pe_str pa_nil))))))))))))) (by rfl)) (pss_one (ps_ret pe_str)) pss_nil)
  (pss_one (ps_ret (pv 1))))))), ?_⟩)
  · obtain ⟨p, sc, rfl, _⟩ := h
    rfl
  · obtain ⟨p, sc, rfl, hP, q⟩ := h
    have hsz := sizeLine_eq
    have abc : ∀ j : Nat, j < 26 → atI ("abcdefghijklmnopqrstuvwxyz" : Str).cps.toList (j : Int) = some (97 + j) := by decide
    have eight : ∀ j : Nat, j < 8 → ∃ z : Str, atI [V.str "a", .str "b", .str "ann", .str "bob", .str "wood", .str "oats", .str "chair", .str "stool"] (j : Int) = some (.str z) ∧ z.length ≤ 100 := by
      intro j hj
      have : j = 0 ∨ j = 1 ∨ j = 2 ∨ j = 3 ∨ j = 4 ∨ j = 5 ∨ j = 6 ∨ j = 7 := by omega
      rcases this with rfl | rfl | rfl | rfl | rfl | rfl | rfl | rfl <;> exact ⟨_, rfl, by decide⟩
    refine ⟨_, rfl, p, 3, rfl, by decide, by decide, sc, hP, fun v o h0 h3 p1 => ?_⟩
    have m1 := (Mv.refl hP).put p1
    replace m1 : Mv p sc H (upd H p o) := m1
    refine ⟨_, _, rfl, rfl, _, rfl, ?_⟩
    show if decide (0 < v) = true then _ else _
    by_cases c : 0 < v
    · refine ifT (decide_eq_true c) ?_
      refine ⟨(by show 8 ≤ sizeLine; omega), fun tp htp => ?_⟩
      replace htp : upd H p o tp = none := htp
      have m2 := m1.new (o := .tup [.str "a", .str "b", .str "ann", .str "bob", .str "wood", .str "oats", .str "chair", .str "stool"]) htp
      refine ⟨_, rfl, p, 8, rfl, by decide, by decide, sc, m2.pool, fun v2 o2 g0 g1 p2 => ?_⟩
      obtain ⟨j, rfl⟩ : ∃ n : Nat, v2 = (n : Int) := ⟨v2.toNat, by omega⟩
      obtain ⟨z, e1, e2⟩ := eight j (by omega)
      exact ⟨tp, _, _, .str z, rfl, rfl, .inl (.inl ((upd_ne (p1.ne htp)).trans upd_same)), e1, q z _ e2 (m2.put p2)⟩
    · refine ifF (decide_eq_false c) ?_
      refine ⟨_, rfl, p, 8, rfl, by decide, by decide, sc, p1, fun v3 o3 g0 g1 p3 => ?_⟩
      have m3 := m1.put p3
      refine ⟨_, _, rfl, rfl, _, rfl, by omega, by omega, ?_⟩
      refine for_range (lo := 0) (n := ((1 : Int) + v3).toNat) (fun i σ H' => ∃ (z : Str) (zk : Option V), σ = [some (.ref p), some (.str z), zk] ∧ z.length = i ∧ Mv p sc H H') ⟨_, _, rfl, rfl, m3⟩ ?_ ?_
      · rintro i σ H' hi ⟨z, zk, rfl, lz, m⟩
        refine ⟨_, rfl, _, rfl, p, 26, rfl, by decide, by decide, sc, m.pool, fun v4 o4 k0 k1 p4 => ?_⟩
        obtain ⟨j, rfl⟩ : ∃ n : Nat, v4 = (n : Int) := ⟨v4.toNat, by omega⟩
        refine ⟨_, _, 97 + j, rfl, rfl, (by show 26 ≤ sizeLine; omega), abc j (by omega), ?_⟩
        refine ⟨_, _, rfl, rfl, (by show z.length + 1 ≤ sizeLine; omega), ?_⟩
        exact ⟨_, _, rfl, by rw [PySem.Str.length_append, lz]; rfl, m.put p4⟩
      · rintro σ H' ⟨z, zk, rfl, lz, m⟩
        refine ⟨_, rfl, (by show 12 ≤ sizeLine; omega), fun tp htp => ?_⟩
        refine ⟨tp, _, rfl, .inr (.inl (.inl upd_same)), rfl, rfl, _, rfl, ?_⟩

        cases inV (V.str z) [V.str "good", V.str "member", V.str "has", V.str "talk", V.str "recipe", V.str "cost", V.str "times", V.str "needs", V.str "takes", V.str "gives", V.str "order", V.str "pays"] with
        | true => exact ifT rfl (q _ _ (by decide) (m.new htp))
        | false => exact ifF rfl ⟨_, rfl, q _ _ (by omega) (m.new htp)⟩
end
theorem flat_strs (l : List Str) : (l.map V.str).all flatV = true := by
  rw [List.all_map]
  exact List.all_eq_true.mpr fun _ _ => rfl
def spUnlike : Sp := fun vs H Q _ => ∃ (p s : Addr) (n : Nat), vs = [.ref p, .int (n : Nat)] ∧ n ≤ 100 ∧ PoolS H p s ∧
  ∀ (D : Addr) (zs : List Str) (H' : Hp), H D = none → H' D = some (.lst (zs.map V.str)) → zs.length = n → (∀ z ∈ zs, z.length ≤ 100) → Mv p s H H' → Q (.ref D) H'
section
variable {P : Program} {w : World} {K : PySem.W.Frag} {mg : Str → Option Value} {base : Heap} {f : Addr} {fd : FuncData}
theorem ok__law_unlike (M : MB mg) (F : FnP K "_law_unlike" s__law_unlike f fd) (C__law_name : Callee P w K mg base CX0 "_law_name" ["pool"] 2 spName) : FnOk P w K mg base CX0 3 f fd ["pool", "count"] spUnlike := by
  refine F.ok sc__law_unlike (fun vs H Q E h => ?_) (fun cdv A outer s H vs Q E hr h => ⟨_, PSs.nox (pss_cons (ps_set (i := 2) sc__law_unlike.nd rfl (.inl rfl) (pe_lst pa_nil))
  (pss_cons (ps_for PassesOwn.never rfl (pi_range1 (by rfl) M.range (pa_cons (pv 1) pa_nil)) (pg_name (i := 3) sc__law_unlike.nd rfl (.inl rfl)) (pss_cons (ps_set (i := 4) sc__law_unlike.nd rfl (.inl rfl) (pe_callC C__law_name (hr.mono (by first | decide | exact Nat.le_refl _ | omega)) (by rfl) (pa_cons (pv 0) pa_nil)))
  (pss_cons (ps_for PassesOwn.never rfl (pi_tup (pe_tup (pa_cons pe_str (pa_cons pe_str (pa_cons pe_str (pa_cons pe_str (pa_cons pe_str pa_nil))))))) (pg_name (i := 5) sc__law_unlike.nd rfl (.inl rfl)) (pss_one (ps_if (pt_cmpR op_in_seq (pv 4) (pv 2) (by rfl)) (pss_one (ps_set (i := 4) sc__law_unlike.nd rfl (.inl rfl) (pv 5))) pss_nil)))
  (pss_one (ps_expr (pe_bm PySem.F.plainAttrs_list PySem.F.slot_list_append PySem.F.type_list_append mt_append (pv 2) (pa_cons (pv 4) pa_nil)))))))
  (pss_one (ps_ret (pv 2))))), ?_⟩)
  · obtain ⟨p, sc, n, rfl, _⟩ := h
    rfl
  · obtain ⟨p, sc, n, rfl, hn, hP, q⟩ := h
    have hsz := sizeLine_eq
    refine ⟨(by show 0 ≤ sizeLine; omega), fun D hD => ?_⟩

    refine ⟨_, rfl, _, rfl, by omega, by omega, ?_⟩
    rw [Int.toNat_natCast]
    refine for_range (lo := 0) (n := n) (fun i σ H' => ∃ (zs : List Str) (z3 z4 z5 : Option V), σ = [some (.ref p), some (.int (n : Nat)), some (.ref D), z3, z4, z5] ∧ H' D = some (.lst (zs.map V.str)) ∧ zs.length = i ∧ (∀ z ∈ zs, z.length ≤ 100) ∧ Mv p sc H H') ⟨[], _, _, _, rfl, upd_same, rfl, (fun _ h => by cases h), (Mv.refl hP).own hP hD⟩ ?_ ?_
    · rintro i σ H' hi ⟨zs, z3, z4, z5, rfl, e1, l1, c1, m⟩
      refine ⟨_, rfl, p, sc, rfl, m.pool, fun nm H2 ln m2 => ?_⟩
      have m3 := m.trans m2
      have e2 : H2 D = some (.lst (zs.map V.str)) := m2.kp D _ (hP.ne hD) e1
      refine ⟨(by show 5 ≤ sizeLine; omega), fun tp htp => ?_⟩
      have e3 := (same_upd (o := .tup [.str "pp", .str "qq", .str "rr", .str "ss", .str "tt"]) htp) _ _ e2
      refine ⟨tp, rfl, ⟨_, .inl (.inl upd_same)⟩, for_tup (K := K) (a := tp) (xs := [.str "pp", .str "qq", .str "rr", .str "ss", .str "tt"]) (fun j σ H3 => (∃ (nm : Str) (z5 : Option V), σ = [some (.ref p), some (.int (n : Nat)), some (.ref D), some (.int (0 + (i : Int))), some (.str nm), z5] ∧ nm.length ≤ 100) ∧ H3 = upd H2 tp (.tup [.str "pp", .str "qq", .str "rr", .str "ss", .str "tt"])) ⟨⟨_, _, rfl, ln⟩, rfl⟩ (fun j σ H3 _ h => .inl (.inl (by rw [h.2, upd_same]))) ?_ ?_⟩
      · rintro j x σ H3 hx ⟨⟨nm, z5, rfl, ln⟩, rfl⟩
        obtain ⟨y, rfl, ly⟩ : ∃ y : Str, x = .str y ∧ y.length ≤ 100 := by
          match j, hx with
          | 0, hx => exact ⟨_, (Option.some.inj hx).symm, by decide⟩
          | 1, hx => exact ⟨_, (Option.some.inj hx).symm, by decide⟩
          | 2, hx => exact ⟨_, (Option.some.inj hx).symm, by decide⟩
          | 3, hx => exact ⟨_, (Option.some.inj hx).symm, by decide⟩
          | 4, hx => exact ⟨_, (Option.some.inj hx).symm, by decide⟩
        refine ⟨_, rfl, _, rfl, D, _, rfl, .inl (.inl (.inl e3)), rfl, flat_strs zs, _, rfl, ?_⟩
        cases inV (V.str nm) (zs.map V.str) with
        | true => exact ifT rfl ⟨_, rfl, ⟨_, _, rfl, ly⟩, rfl⟩
        | false => exact ifF rfl ⟨⟨_, _, rfl, ln⟩, rfl⟩
      · rintro σ H3 ⟨⟨nm, z5, rfl, ln⟩, rfl⟩
        refine ⟨_, rfl, tyL (.inl (.inl e3)), _, rfl, ?_⟩
        dsimp only [tNil]
        refine ⟨D, zs.map V.str, _, rfl, rfl, e3, (by rw [List.length_map]; omega), ?_⟩
        refine ⟨zs ++ [nm], _, _, _, rfl, by rw [upd_same, List.map_append]; rfl, by rw [List.length_append, l1]; rfl, fun z hz => ?_, (m3.new htp).own hP hD⟩
        rcases List.mem_append.mp hz with h | h
        · exact c1 z h
        · rw [List.mem_singleton.mp h]
          exact ln
    · rintro σ H' ⟨zs, z3, z4, z5, rfl, e1, l1, c1, m⟩
      exact ⟨_, rfl, q D zs H' hD e1 l1 c1 m⟩
end

theorem seqIx {j n : Nat} (h : j < n) : seqIndex? (j : Int) n = some j := by
  unfold seqIndex?
  have h1 : ¬ ((j : Int) < 0) := by omega
  simp [h1, h]
def spChosen : Sp := fun vs H Q _ => ∃ (p s : Addr) (n m : Nat), vs = [.ref p, .int (n : Nat), .int (m : Nat)] ∧ n ≤ 100 ∧ m ≤ 100 ∧ PoolS H p s ∧
  ∀ (D : Addr) (js : List Nat) (H' : Hp), H D = none → H' D = some (.lst (natV js)) → js.length ≤ n → js.length ≤ m → (∀ j ∈ js, j < n) → Mv p s H H' → Q (.ref D) H'
section
variable {P : Program} {w : World} {K : PySem.W.Frag} {mg : Str → Option Value} {base : Heap} {f : Addr} {fd : FuncData}
theorem ok__law_chosen (M : MB mg) (F : FnP K "_law_chosen" s__law_chosen f fd) (C__law_draw : Callee P w K mg base CX0 "_law_draw" ["pool", "size"] 1 spDraw) : FnOk P w K mg base CX0 2 f fd ["pool", "count", "most"] spChosen := by
  refine F.ok sc__law_chosen (fun vs H Q E h => ?_) (fun cdv A outer s H vs Q E hr h => ⟨_, PSs.nox (pss_cons (ps_set (i := 3) sc__law_chosen.nd rfl (.inl rfl) (pe_listRg rfl (by rfl) M.list (prg_1 (by rfl) M.range (pv 1))))
  (pss_cons (ps_set (i := 4) sc__law_chosen.nd rfl (.inl rfl) (pe_lst pa_nil))
  (pss_cons (ps_for PassesOwn.never rfl (pi_range1 (by rfl) M.range (pa_cons (pe_callC C__law_draw (hr.mono (by first | decide | exact Nat.le_refl _ | omega)) (by rfl) (pa_cons (pv 0) (pa_cons (pe_op op_add (pe_callB (call_min2 rfl) (by rfl) M.min (by decide +kernel) (pa_cons (pv 1) (pa_cons (pv 2) pa_nil))) pe_int) pa_nil))) pa_nil)) (pg_name (i := 5) sc__law_chosen.nd rfl (.inl rfl)) (pss_one (ps_expr (pe_bm PySem.F.plainAttrs_list PySem.F.slot_list_append PySem.F.type_list_append mt_append (pv 4) (pa_cons (pe_bm PySem.F.plainAttrs_list PySem.F.slot_list_pop PySem.F.type_list_pop mt_popAt (pv 3) (pa_cons (pe_callC C__law_draw (hr.mono (by first | decide | exact Nat.le_refl _ | omega)) (by rfl) (pa_cons (pv 0) (pa_cons (pe_callB call_len_seq (by rfl) M.len (by decide +kernel) (pa_cons (pv 3) pa_nil)) pa_nil))) pa_nil)) pa_nil)))))
  (pss_one (ps_ret (pv 4)))))), ?_⟩)
  · obtain ⟨p, sc, n, m, rfl, _⟩ := h
    rfl
  · obtain ⟨p, sc, n, m, rfl, hn, hm, hP, q⟩ := h
    have hsz := sizeLine_eq
    refine ⟨_, rfl, _, rfl, ⟨by omega, by omega, by omega, by omega, by omega⟩, fun L hL => ?_⟩
    have m1 : Mv p sc H (upd H L (.lst (rgV 0 (n : Int)))) := (Mv.refl hP).own hP hL
    have eL : upd H L (.lst (rgV 0 (n : Int))) L = some (.lst (natV (List.range n))) := by rw [upd_same, rg_nat]
    refine ⟨(by show 0 ≤ sizeLine; omega), fun D hD => ?_⟩
    replace hD : upd H L (.lst (rgV 0 (n : Int))) D = none := hD
    have nDL : D ≠ L := fun z => by
      rw [z, upd_same] at hD
      cases hD
    have hD0 : H D = none := by
      rw [upd_ne nDL] at hD
      exact hD
    have m2 : Mv p sc H (upd (upd H L (.lst (rgV 0 (n : Int)))) D (.lst [])) := m1.new hD
    refine ⟨_, rfl, _, rfl, _, rfl, ?_⟩
    obtain ⟨k0, hk0⟩ : ∃ k : Nat, (if (m : Int) < (n : Int) then (m : Int) else (n : Int)) + 1 = ((k + 1 : Nat) : Int) ∧ k ≤ n ∧ k ≤ m := by
      by_cases c : (m : Int) < (n : Int)
      · exact ⟨m, by rw [if_pos c]; omega, by omega, Nat.le_refl _⟩
      · exact ⟨n, by rw [if_neg c]; omega, Nat.le_refl _, by omega⟩
    refine ⟨_, _, rfl, _, _, rfl, rfl, p, _, rfl, by rw [hk0.1]; omega, by rw [hk0.1]; omega, sc, m2.pool, fun v o h0 h1 p1 => ?_⟩
    rw [hk0.1] at h1
    have m3 := m2.put p1
    have eD3 : upd (upd (upd H L (.lst (rgV 0 (n : Int)))) D (.lst [])) p o D = some (.lst (natV [])) := (upd_ne (hP.ne hD0)).trans upd_same
    have eL3 : upd (upd (upd H L (.lst (rgV 0 (n : Int)))) D (.lst [])) p o L = some (.lst (natV (List.range n))) := (upd_ne (hP.ne hL)).trans ((upd_ne nDL.symm).trans eL)
    refine ⟨_, rfl, by omega, by omega, ?_⟩
    refine for_range (lo := 0) (n := v.toNat) (fun i σ H' => ∃ (left js : List Nat) (z5 : Option V), σ = [some (.ref p), some (.int (n : Nat)), some (.int (m : Nat)), some (.ref L), some (.ref D), z5] ∧ H' L = some (.lst (natV left)) ∧ H' D = some (.lst (natV js)) ∧ js.length = i ∧ left.length + i = n ∧ (∀ j ∈ left, j < n) ∧ (∀ j ∈ js, j < n) ∧ Mv p sc H H')
      ⟨List.range n, [], _, rfl, eL3, eD3, rfl, List.length_range, fun j hj => List.mem_range.mp hj, (fun _ h => by cases h), m3⟩ ?_ ?_
    · rintro i σ H' hi ⟨left, js, z5, rfl, e1, e2, l1, l2, c1, c2, mm⟩
      have hl : 0 < left.length := by omega
      have ll : (natV left).length = left.length := List.length_map _
      refine ⟨_, rfl, tyL (.inl (.inl e2)), _, rfl, tyL (.inl (.inl e1)), _, rfl, _, rfl, _, _, rfl, .inl (.inl (.inl e1)), p, _, rfl, by omega, by omega, sc, mm.pool, fun v2 o2 g0 g1 p2 => ?_⟩
      have m4 := mm.put p2
      obtain ⟨k, rfl⟩ : ∃ n : Nat, v2 = (n : Int) := ⟨v2.toNat, by omega⟩
      have hk : k < left.length := by omega
      have e3 : upd H' p o2 L = some (.lst (natV left)) := (upd_ne (hP.ne hL)).trans e1
      have e4 : upd H' p o2 D = some (.lst (natV js)) := (upd_ne (hP.ne hD0)).trans e2
      dsimp only [tNil]
      refine ⟨L, natV left, _, k, .int ((left[k] : Nat) : Int), rfl, rfl, e3, by omega, by omega, by rw [ll]; exact seqIx hk, by unfold natV; rw [List.getElem?_map, List.getElem?_eq_getElem hk]; rfl, ?_⟩
      have e5 : upd (upd H' p o2) L (.lst ((natV left).eraseIdx k)) L = some (.lst (natV (left.eraseIdx k))) := by
        rw [upd_same]
        unfold natV
        rw [er_map]
      have e6 : upd (upd H' p o2) L (.lst ((natV left).eraseIdx k)) D = some (.lst (natV js)) := (upd_ne nDL).trans e4
      have m5 : Mv p sc H (upd (upd H' p o2) L (.lst ((natV left).eraseIdx k))) := m4.own hP hL
      refine ⟨D, natV js, _, rfl, rfl, e6, by unfold natV; rw [List.length_map]; omega, ?_⟩
      refine ⟨left.eraseIdx k, js ++ [left[k]], _, rfl, (upd_ne nDL.symm).trans e5, by rw [upd_same]; unfold natV; rw [List.map_append]; rfl, by rw [List.length_append, l1]; rfl, by rw [List.length_eraseIdx, if_pos hk]; omega, fun j hj => c1 j (List.mem_of_mem_eraseIdx hj), fun j hj => ?_, m5.own hP hD0⟩
      rcases List.mem_append.mp hj with h | h
      · exact c2 j h
      · rw [List.mem_singleton.mp h]
        exact c1 _ (List.getElem_mem hk)
    · rintro σ H' ⟨left, js, z5, rfl, e1, e2, l1, l2, c1, c2, mm⟩
      exact ⟨_, rfl, q D js H' hD0 e2 (by omega) (by omega) c2 mm⟩
end
/-! ### data that a drawing def makes: told in the heap without the pool -/
def cutP (H : Hp) (p : Addr) : Hp := fun b => if b = p then none else H b
theorem cutP_ne {H : Hp} {p b : Addr} (h : b ≠ p) : cutP H p b = H b := if_neg h
theorem cutP_same {H H' : Hp} {p : Addr} (k : Kp p H H') : Same (cutP H p) (cutP H' p) := fun b o e => by
  by_cases c : b = p
  · unfold cutP at e
    rw [if_pos c] at e
    cases e
  · rw [cutP_ne c] at e ⊢
    exact k b o c e
theorem cutP_sub {H : Hp} {p : Addr} : Same (cutP H p) H := fun b o e => by
  by_cases c : b = p
  · unfold cutP at e
    rw [if_pos c] at e
    cases e
  · rw [cutP_ne c] at e
    exact e
theorem cutP_at {H : Hp} {p b : Addr} {o : HO} (h : b ≠ p) (e : H b = some o) : cutP H p b = some o := by rw [cutP_ne h]; exact e
theorem cut2_same {H H' : Hp} {p D : Addr} (k : Kp p H H') : Same (cutP (cutP H p) D) (cutP (cutP H' p) D) := cutP_same (Kp.same (cutP_same k))
theorem cut2_own {H : Hp} {p D : Addr} {o : HO} : cutP (cutP (upd H D o) p) D = cutP (cutP H p) D := by
  funext b
  unfold cutP
  by_cases c : b = D
  · rw [if_pos c, if_pos c]
  · rw [if_neg c, if_neg c, upd_ne c]
theorem natV_get {js : List Nat} {i : Nat} {x : V} (h : (natV js)[i]? = some x) : ∃ j, js[i]? = some j ∧ x = .int ((j : Nat) : Int) := by
  unfold natV at h
  rw [List.getElem?_map] at h
  cases e : js[i]? with
  | none =>
    rw [e] at h
    cases h
  | some j =>
    rw [e] at h
    exact ⟨j, rfl, (Option.some.inj h).symm⟩
/-- amounts: pairs of an index and a number -/
def amtD (l : List (Nat × Int)) : List PyData := l.map fun p => .tuple [.int ((p.1 : Nat) : Int), .int p.2]
structure AmtOk (n : Nat) (l : List (Nat × Int)) : Prop where
  len : l.length ≤ 4
  ix : ∀ p ∈ l, p.1 < n
  lo : ∀ p ∈ l, 0 ≤ p.2
def spPairs (K : PySem.W.Frag) : Sp := fun vs H Q _ => ∃ (p s : Addr) (n m L : Nat), vs = [.ref p, .int (n : Nat), .int (m : Nat), .int (L : Nat)] ∧ n ≤ 4 ∧ m ≤ 100 ∧ 1 ≤ L ∧ L ≤ 1000 ∧ PoolS H p s ∧
  ∀ (t : Addr) (l : List (Nat × Int)) (H' : Hp), Dp K (cutP H' p) (.ref t) (.tuple (amtD l)) → l.length ≤ m → AmtOk n l → Mv p s H H' → Q (.ref t) H'
section
variable {P : Program} {w : World} {K : PySem.W.Frag} {mg : Str → Option Value} {base : Heap} {f : Addr} {fd : FuncData}
theorem ok__law_pairs (M : MB mg) (F : FnP K "_law_pairs" s__law_pairs f fd) (C__law_draw : Callee P w K mg base CX0 "_law_draw" ["pool", "size"] 1 spDraw) (C__law_chosen : Callee P w K mg base CX0 "_law_chosen" ["pool", "count", "most"] 2 spChosen) : FnOk P w K mg base CX0 3 f fd ["pool", "count", "most", "large"] (spPairs K) := by
  refine F.ok sc__law_pairs (fun vs H Q E h => ?_) (fun cdv A outer s H vs Q E hr h => ⟨_, PSs.nox (pss_one (ps_ret (pe_callTy call_tuple_of (by rfl) M.tuple (by decide +kernel) (pa_cons (pe_lc (own := [("index", 4)]) (g := gName 4) (by rfl) sc__law_pairs.nd (pi_list (pe_callC C__law_chosen (hr.mono (by first | decide | exact Nat.le_refl _ | omega)) (by rfl) (pa_cons (pv 0) (pa_cons (pv 1) (pa_cons (pv 2) pa_nil))))) (blkOk_by (own := [("index", 4)]) (N := N__law_pairs) (sc := defScope s__law_pairs) (by decide +kernel)) (fun _ _ _ _ _ => pg_name (i := 4) sc__law_pairs.nd rfl (.inl rfl)) (fun _ _ _ _ _ => pts_nil) (fun _ _ _ _ _ => (pe_tup (pa_cons (pv 4) (pa_cons (pe_callC C__law_draw (hr.mono (by first | decide | exact Nat.le_refl _ | omega)) (by rfl) (pa_cons (pv 0) (pa_cons (pv 3) pa_nil))) pa_nil))))) pa_nil)))), ?_⟩)
  · obtain ⟨p, sc, n, m, L, rfl, _⟩ := h
    rfl
  · obtain ⟨p, sc, n, m, L, rfl, hn, hm, hL, hL2, hP, q⟩ := h
    have hsz := sizeLine_eq
    refine ⟨_, rfl, _, rfl, _, rfl, ?_⟩
    dsimp only [tNil]
    refine ⟨p, sc, n, m, rfl, by omega, hm, hP, fun J js H1 hJ eJ l1 l2 c1 m1 => ?_⟩
    refine ⟨J, rfl, ⟨_, .inl (.inl eJ)⟩, fun D hD => ?_⟩
    have nD := m1.pool.ne hD
    have hD0 : H D = none := by
      cases e : H D with
      | none => rfl
      | some o =>
        rw [m1.kp D o nD e] at hD
        cases hD
    have lj : (natV js).length = js.length := List.length_map _
    refine lc_list (K := K) (a := J) (xs := natV js) (fun i H' => ∃ (ts : List V) (l : List (Nat × Int)), H' D = some (.lst ts) ∧ DpAll K (cutP (cutP H' p) D) ts (amtD l) ∧ l.length = i ∧ (∀ q ∈ l, q.1 < n ∧ 0 ≤ q.2 ∧ q.2 ≤ 1000) ∧ Mv p sc H H' ∧ H' J = some (.lst (natV js)))
      ⟨[], [], upd_same, .nil, rfl, (fun _ h => by cases h), m1.own hP hD0, (same_upd hD) _ _ eJ⟩ (fun i H' _ h => ?_) (fun i x H' hx h => ?_) (fun H' h => ?_)
    · obtain ⟨_, _, _, _, _, _, _, e⟩ := h
      exact .inl (.inl e)
    · obtain ⟨ts, l, e1, d1, k1, b1, mm, e2⟩ := h
      obtain ⟨j, hj, rfl⟩ := natV_get hx
      have hjn := c1 j (List.mem_of_getElem? hj)
      have hts := dpa_len d1
      unfold amtD at hts
      rw [List.length_map] at hts
      have hi : i < js.length := (List.getElem?_eq_some_iff.mp hj).1
      refine ⟨rfl, yes_of ?_⟩
      refine ⟨_, rfl, _, rfl, _, rfl, p, _, rfl, by omega, by omega, sc, mm.pool, fun v o g0 g1 p2 => ?_⟩
      have m2 := mm.put p2
      replace m2 : Mv p sc H (upd H' p o) := m2
      dsimp only [tNil]
      refine ⟨(by show 2 ≤ sizeLine; omega), fun t ht => ?_⟩
      replace ht : upd H' p o t = none := ht
      have nt := p2.ne ht
      have e3 : upd H' p o D = some (.lst ts) := (upd_ne nD).trans e1
      have ntD : t ≠ D := fun z => by
        rw [z, e3] at ht
        cases ht
      have m3 := m2.new (o := .tup [.int ((j : Nat) : Int), .int v]) ht
      have kk : Kp p H' (upd (upd H' p o) t (.tup [.int ((j : Nat) : Int), .int v])) := Kp.upd.trans (Kp.same (same_upd ht))
      refine ⟨ts, (upd_ne ntD.symm).trans e3, by omega, ts ++ [.ref t], l ++ [(j, v)], upd_same, ?_, by rw [List.length_append, k1]; rfl, fun q hq => ?_, m3.own hP hD0, ?_⟩
      · rw [cut2_own]
        unfold amtD
        rw [List.map_append]
        exact dpa_append (dpa_same (cut2_same kk) d1) (.cons (.tup (.inl (.inl (cutP_at ntD (cutP_at nt upd_same)))) (.cons (.int _) (.cons (.int _) .nil))) .nil)
      · rcases List.mem_append.mp hq with h | h
        · exact b1 q h
        · rw [List.mem_singleton.mp h]
          exact ⟨hjn, g0, by show v ≤ 1000; omega⟩
      · have nJp : J ≠ p := hP.ne hJ
        have nJD : J ≠ D := fun z => by
          rw [z, e1] at e2
          have z2 := HO.lst.inj (Option.some.inj e2)
          rw [← z, eJ] at hD
          cases hD
        exact (upd_ne nJD).trans ((same_upd ht) _ _ ((upd_ne nJp).trans e2))
    · obtain ⟨ts, l, e1, d1, k1, b1, mm, e2⟩ := h
      rw [lj] at k1
      refine ⟨D, ts, rfl, .inl ⟨.inl (.inl e1), fun t ht => ?_⟩⟩
      refine q t l _ (.tup (.inl (.inl (cutP_at (mm.pool.ne ht) upd_same))) (dpa_same (cutP_sub.trans (cutP_same (Kp.same (same_upd ht)))) d1)) (by omega) ⟨by omega, fun q hq => (b1 q hq).1, fun q hq => (b1 q hq).2.1⟩ (mm.new ht)
end

/-! ### a drawn house -/
def natD (l : List Nat) : List PyData := l.map fun n => .int ((n : Nat) : Int)
def membT (l : List Memb) : List PyData := l.map fun m => .tuple [.str m.1, .tuple (amtD m.2)]
def reciT (r : Reci) : PyData := .tuple [.str r.name, .int r.cost, .int r.times, .tuple (natD r.needs), .tuple (amtD r.takes), .tuple (amtD r.gives)]
def ordT (o : Ordr) : PyData := .tuple [.str o.name, .int o.pay, .tuple (amtD o.takes)]
def housT (h : Hous) : List PyData := [.tuple (strD h.goods), .tuple (membT h.members), .tuple (amtD h.talks), .tuple (h.recipes.map reciT), .tuple (h.orders.map ordT)]
structure ReciOk (n nm : Nat) (r : Reci) : Prop where
  c0 : 0 ≤ r.cost
  c1 : r.cost ≤ 1000
  t0 : 0 ≤ r.times
  t1 : r.times ≤ 4
  nd : ∀ k ∈ r.needs, k < nm
  nl : r.needs.length ≤ 10
  tk : AmtOk n r.takes
  gv : AmtOk n r.gives
structure OrdrOk (n : Nat) (o : Ordr) : Prop where
  p0 : 0 ≤ o.pay
  p1 : o.pay ≤ 1000
  tk : AmtOk n o.takes
structure HousOk (h : Hous) : Prop where
  g0 : 1 ≤ h.goods.length
  g1 : h.goods.length ≤ 4
  m0 : 1 ≤ h.members.length
  m1 : h.members.length ≤ 5
  m2 : ∀ m ∈ h.members, AmtOk h.goods.length m.2
  t1 : h.talks.length ≤ 100
  r1 : h.recipes.length ≤ 3
  r2 : ∀ r ∈ h.recipes, ReciOk h.goods.length h.members.length r
  o1 : h.orders.length ≤ 5
  o2 : ∀ o ∈ h.orders, OrdrOk h.goods.length o
/-- at a a list of the data ds, none of it in the pool -/
def LstD (K : PySem.W.Frag) (p : Addr) (H : Hp) (a : Addr) (ds : List PyData) : Prop := ∃ vs, H a = some (.lst vs) ∧ a ≠ p ∧ DpAll K (cutP H p) vs ds
theorem LstD.mv {K : PySem.W.Frag} {p a : Addr} {H H' : Hp} {ds : List PyData} (h : LstD K p H a ds) (k : Kp p H H') : LstD K p H' a ds := by
  obtain ⟨vs, e, n, d⟩ := h
  exact ⟨vs, k a _ n e, n, dpa_same (cutP_same k) d⟩
/-! data without a list in it stands in no list's cell -/
mutual
def noL : PyData → Bool
  | .list _ => false
  | .dict _ => false
  | .tuple ds => noLs ds
  | .none => true
  | .bool _ => true
  | .int _ => true
  | .str _ => true
def noLs : List PyData → Bool
  | [] => true
  | d :: ds => noL d && noLs ds
end
theorem noLs_map {α : Type} {f : α → PyData} (h : ∀ x, noL (f x) = true) : ∀ l : List α, noLs (l.map f) = true
  | [] => by rw [List.map_nil, noLs]
  | x :: l => by rw [List.map_cons, noLs, h x, noLs_map h l]; rfl
theorem noLs_app : ∀ {l m : List PyData}, noLs l = true → noLs m = true → noLs (l ++ m) = true
  | [], _, _, h => h
  | d :: l, m, h, k => by
    rw [noLs] at h
    obtain ⟨h1, h2⟩ := Bool.and_eq_true_iff.mp h
    rw [List.cons_append, noLs, h1, noLs_app h2 k]
    rfl
mutual
theorem dp_off {K : PySem.W.Frag} {H : Hp} {D : Addr} {us : List V} (hD : H D = some (.lst us)) : ∀ {v : V} {d : PyData}, noL d = true → Dp K H v d → Dp K (cutP H D) v d
  | _, _, _, .non => .non
  | _, _, _, .bl b => .bl b
  | _, _, _, .int i => .int i
  | _, _, _, .str x => .str x
  | _, _, n, .lst _ _ => by rw [noL] at n; cases n
  | _, _, n, .tup (a := a) h hs => .tup (by
      rcases h with (q | ⟨o, q⟩) | q
      · exact .inl (.inl (cutP_at (fun z => by rw [z, hD] at q; cases q) q))
      · exact .inl (.inr ⟨o, cutP_at (fun z => by rw [z, hD] at q; cases q) q⟩)
      · exact .inr q) (dpa_off hD (by rw [noL] at n; exact n) hs)
theorem dpa_off {K : PySem.W.Frag} {H : Hp} {D : Addr} {us : List V} (hD : H D = some (.lst us)) : ∀ {vs : List V} {ds : List PyData}, noLs ds = true → DpAll K H vs ds → DpAll K (cutP H D) vs ds
  | _, _, _, .nil => .nil
  | _, _, n, .cons h t => by
    rw [noLs] at n
    obtain ⟨n1, n2⟩ := Bool.and_eq_true_iff.mp n
    exact .cons (dp_off hD n1 h) (dpa_off hD n2 t)
end
theorem own_sub {H : Hp} {p D : Addr} {o : HO} : Same (cutP (cutP H p) D) (cutP (upd H D o) p) := by
  rw [← cut2_own (o := o)]
  exact cutP_sub
theorem dp_own {K : PySem.W.Frag} {H : Hp} {p D : Addr} {us : List V} {o : HO} {v : V} {d : PyData} (hD : H D = some (.lst us)) (nD : D ≠ p) (n : noL d = true) (h : Dp K (cutP H p) v d) : Dp K (cutP (upd H D o) p) v d :=
  dp_same own_sub (dp_off (cutP_at nD hD) n h)
theorem dpa_own {K : PySem.W.Frag} {H : Hp} {p D : Addr} {us : List V} {o : HO} {vs : List V} {ds : List PyData} (hD : H D = some (.lst us)) (nD : D ≠ p) (n : noLs ds = true) (h : DpAll K (cutP H p) vs ds) : DpAll K (cutP (upd H D o) p) vs ds :=
  dpa_same own_sub (dpa_off (cutP_at nD hD) n h)
/-- a value is appended -/
theorem lst_step {K : PySem.W.Frag} {p D : Addr} {H : Hp} {vs : List V} {ds : List PyData} {v : V} {d : PyData} (hD : H D = some (.lst vs)) (nD : D ≠ p) (hd : DpAll K (cutP H p) vs ds) (n : noLs ds = true) (hv : Dp K (cutP H p) v d) (n2 : noL d = true) :
    LstD K p (upd H D (.lst (vs ++ [v]))) D (ds ++ [d]) :=
  ⟨vs ++ [v], upd_same, nD, dpa_append (dpa_own hD nD n hd) (.cons (dp_own hD nD n2 hv) .nil)⟩
theorem LstD.len {K : PySem.W.Frag} {p a : Addr} {H : Hp} {ds : List PyData} (h : LstD K p H a ds) : ∃ vs, H a = some (.lst vs) ∧ vs.length = ds.length := by
  obtain ⟨vs, e, _, d⟩ := h
  exact ⟨vs, e, dpa_len d⟩
/-- a new tuple of data -/
theorem tup_new {K : PySem.W.Frag} {p t : Addr} {H : Hp} {xs : List V} {es : List PyData} (ht : H t = none) (nt : t ≠ p) (h : DpAll K (cutP H p) xs es) : Dp K (cutP (upd H t (.tup xs)) p) (.ref t) (.tuple es) :=
  .tup (.inl (.inl (cutP_at nt upd_same))) (dpa_same (cutP_same (Kp.same (same_upd ht))) h)
theorem noL_amt (l : List (Nat × Int)) : noL (.tuple (amtD l)) = true := by
  rw [noL]
  exact noLs_map (fun x => by simp [noL, noLs]) l
theorem noL_memb (l : List Memb) : noLs (membT l) = true := noLs_map (fun x => by simp [noL, noLs]; exact noL_amt x.2) l
theorem dpv_mv {K : PySem.W.Frag} {p : Addr} {H H' : Hp} {v : V} {d : PyData} (h : Dp K (cutP H p) v d) (k : Kp p H H') : Dp K (cutP H' p) v d := dp_same (cutP_same k) h
theorem dpaStr {K : PySem.W.Frag} {H : Hp} (l : List Str) : DpAll K H (l.map V.str) (strD l) := strD_dpa l
theorem dpa_erase {K : PySem.W.Frag} {H : Hp} : ∀ {vs : List V} {ds : List PyData} (k : Nat), DpAll K H vs ds → DpAll K H (vs.eraseIdx k) (ds.eraseIdx k)
  | _, _, _, .nil => .nil
  | _, _, 0, .cons _ t => t
  | _, _, k + 1, .cons h t => .cons h (dpa_erase k t)
theorem dpa_at {K : PySem.W.Frag} {H : Hp} : ∀ {vs : List V} {ds : List PyData} {k : Nat} {d : PyData}, DpAll K H vs ds → ds[k]? = some d → ∃ v, vs[k]? = some v ∧ Dp K H v d
  | _, _, 0, _, .cons h _, e => ⟨_, rfl, by rw [← Option.some.inj e]; exact h⟩
  | _, _, k + 1, _, .cons _ t, e => dpa_at (k := k) t e
theorem noL_tl (l : List (Nat × Int)) : noLs (amtD l) = true := noLs_map (fun x => by simp [noL, noLs]) l
theorem pair_step {K : PySem.W.Frag} {p D t : Addr} {H : Hp} {vs : List V} {l : List (Nat × Int)} {a : Nat} {b : Int} (hD : H D = some (.lst vs)) (nD : D ≠ p) (hd : DpAll K (cutP H p) vs (amtD l)) (ht : H t = none) (nt : t ≠ p) :
    upd H t (.tup [.int ((a : Nat) : Int), .int b]) D = some (.lst vs) ∧ LstD K p (upd (upd H t (.tup [.int ((a : Nat) : Int), .int b])) D (.lst (vs ++ [.ref t]))) D (amtD (l ++ [(a, b)])) := by
  have e := (same_upd (o := .tup [.int ((a : Nat) : Int), .int b]) ht) _ _ hD
  refine ⟨e, ?_⟩
  have z := lst_step (K := K) e nD (dpa_same (cutP_same (Kp.same (same_upd ht))) hd) (noL_tl l) (tup_new ht nt (xs := [.int ((a : Nat) : Int), .int b]) (es := [.int ((a : Nat) : Int), .int b]) (.cons (.int _) (.cons (.int _) .nil))) (by simp [noL, noLs])
  unfold amtD at z ⊢
  rw [List.map_append]
  exact z
theorem amtD_len (l : List (Nat × Int)) : (amtD l).length = l.length := List.length_map _
def spHouse (K : PySem.W.Frag) : Sp := fun vs H Q _ => ∃ p s : Addr, vs = [.ref p, .int 5, .int 5] ∧ PoolS H p s ∧
  ∀ (t : Addr) (h : Hous) (H' : Hp), Dp K (cutP H' p) (.ref t) (.tuple (housT h)) → HousOk h → Mv p s H H' → Q (.ref t) H'
def Mid1 (K : PySem.W.Frag) (p sc : Addr) (H0 : Hp) (σ : L2.St) (H : Hp) : Prop := ∃ (g ML : Addr) (goods : List Str) (ms : List Memb) (z6 z8 z9 z10 z11 z12 z13 z14 z15 z16 z17 : Option V),
  σ = [some (.ref p), some (.int 5), some (.int 5), some (.ref g), some (.int ((goods.length : Nat) : Int)), some (.bl true), z6, some (.ref ML), z8, z9, z10, z11, z12, z13, z14, z15, z16, z17] ∧ Mv p sc H0 H ∧
  Dp K (cutP H p) (.ref g) (.tuple (strD goods)) ∧ LstD K p H ML (membT ms) ∧ 1 ≤ goods.length ∧ goods.length ≤ 4 ∧ 1 ≤ ms.length ∧ ms.length ≤ 5 ∧ (∀ m ∈ ms, AmtOk goods.length m.2)
def Mid2 (K : PySem.W.Frag) (p sc : Addr) (H0 : Hp) (σ : L2.St) (H : Hp) : Prop := ∃ (g ML TL : Addr) (goods : List Str) (ms : List Memb) (tl : List (Nat × Int)) (z6 z9 z10 z11 z12 z13 z14 z15 z16 z17 : Option V),
  σ = [some (.ref p), some (.int 5), some (.int 5), some (.ref g), some (.int ((goods.length : Nat) : Int)), some (.bl true), z6, some (.ref ML), some (.ref TL), z9, z10, z11, z12, z13, z14, z15, z16, z17] ∧ Mv p sc H0 H ∧
  Dp K (cutP H p) (.ref g) (.tuple (strD goods)) ∧ LstD K p H ML (membT ms) ∧ LstD K p H TL (amtD tl) ∧ 1 ≤ goods.length ∧ goods.length ≤ 4 ∧ 1 ≤ ms.length ∧ ms.length ≤ 5 ∧ (∀ m ∈ ms, AmtOk goods.length m.2) ∧ tl.length ≤ 100
theorem noL_nat (l : List Nat) : noL (.tuple (natD l)) = true := by
  rw [noL]
  exact noLs_map (fun x => by simp [noL]) l
theorem noL_reci (l : List Reci) : noLs (l.map reciT) = true := noLs_map (fun r => by simp [reciT, noL, noLs]; exact ⟨noL_nat r.needs, noL_amt r.takes, noL_amt r.gives⟩) l
theorem noL_ord (l : List Ordr) : noLs (l.map ordT) = true := noLs_map (fun r => by simp [ordT, noL, noLs]; exact noL_amt r.takes) l
theorem natV_dpa {K : PySem.W.Frag} {H : Hp} : ∀ l : List Nat, DpAll K H (natV l) (natD l)
  | [] => .nil
  | _ :: l => .cons (.int _) (natV_dpa l)
def Mid3 (K : PySem.W.Frag) (p sc : Addr) (H0 : Hp) (σ : L2.St) (H : Hp) : Prop := ∃ (g ML TL RL : Addr) (goods : List Str) (ms : List Memb) (tl : List (Nat × Int)) (rs : List Reci) (z6 z9 z10 z11 z13 z14 z15 z16 z17 : Option V),
  σ = [some (.ref p), some (.int 5), some (.int 5), some (.ref g), some (.int ((goods.length : Nat) : Int)), some (.bl true), z6, some (.ref ML), some (.ref TL), z9, z10, z11, some (.ref RL), z13, z14, z15, z16, z17] ∧ Mv p sc H0 H ∧
  Dp K (cutP H p) (.ref g) (.tuple (strD goods)) ∧ LstD K p H ML (membT ms) ∧ LstD K p H TL (amtD tl) ∧ LstD K p H RL (rs.map reciT) ∧ 1 ≤ goods.length ∧ goods.length ≤ 4 ∧ 1 ≤ ms.length ∧ ms.length ≤ 5 ∧ (∀ m ∈ ms, AmtOk goods.length m.2) ∧ tl.length ≤ 100 ∧
  rs.length ≤ 3 ∧ (∀ r ∈ rs, ReciOk goods.length ms.length r)
def Mid4 (K : PySem.W.Frag) (p sc : Addr) (H0 : Hp) (σ : L2.St) (H : Hp) : Prop := ∃ (g ML TL RL OL : Addr) (goods : List Str) (ms : List Memb) (tl : List (Nat × Int)) (rs : List Reci) (os : List Ordr) (z6 z9 z10 z11 z13 z14 z15 z17 : Option V),
  σ = [some (.ref p), some (.int 5), some (.int 5), some (.ref g), some (.int ((goods.length : Nat) : Int)), some (.bl true), z6, some (.ref ML), some (.ref TL), z9, z10, z11, some (.ref RL), z13, z14, z15, some (.ref OL), z17] ∧ Mv p sc H0 H ∧
  Dp K (cutP H p) (.ref g) (.tuple (strD goods)) ∧ LstD K p H ML (membT ms) ∧ LstD K p H TL (amtD tl) ∧ LstD K p H RL (rs.map reciT) ∧ LstD K p H OL (os.map ordT) ∧ HousOk ⟨goods, ms, tl, rs, os⟩
section
variable {P : Program} {w : World} {K : PySem.W.Frag} {mg : Str → Option Value} {base : Heap} {f : Addr} {fd : FuncData}
theorem ok__law_house (M : MB mg) (F : FnP K "_law_house" s__law_house f fd) (C__law_draw : Callee P w K mg base CX0 "_law_draw" ["pool", "size"] 1 spDraw) (C__law_chosen : Callee P w K mg base CX0 "_law_chosen" ["pool", "count", "most"] 2 spChosen)
    (C__law_unlike : Callee P w K mg base CX0 "_law_unlike" ["pool", "count"] 3 spUnlike) (C__law_pairs : Callee P w K mg base CX0 "_law_pairs" ["pool", "count", "most", "large"] 3 (spPairs K)) : FnOk P w K mg base CX0 4 f fd ["pool", "most", "large"] (spHouse K) := by
  refine F.ok sc__law_house (fun vs H Q E h => ?_) (fun cdv A outer s H vs Q E hr h => ⟨_, PSs.nox (pss_cons (ps_set (i := 3) sc__law_house.nd rfl (.inl rfl) (pe_callTy call_tuple_of (by rfl) M.tuple (by decide +kernel) (pa_cons (pe_callC C__law_unlike (hr.mono (by first | decide | exact Nat.le_refl _ | omega)) (by rfl) (pa_cons (pv 0) (pa_cons (pe_op op_add pe_int (pe_callC C__law_draw (hr.mono (by first | decide | exact Nat.le_refl _ | omega)) (by rfl) (pa_cons (pv 0) (pa_cons pe_int pa_nil)))) pa_nil))) pa_nil)))
  (pss_cons (ps_set (i := 4) sc__law_house.nd rfl (.inr rfl) (pe_callB call_len_seq (by rfl) M.len (by decide +kernel) (pa_cons (pv 3) pa_nil)))
  (pss_cons (ps_set (i := 5) sc__law_house.nd rfl (.inl rfl) (pe_cmpR op_lt (pv 2) pe_int (nomark _)))
  (Evl.pss_cut (ps_setLc (i := 7) (own := [("name", 6)]) (g := gName 6) (by rfl) sc__law_house.nd rfl rfl (sw_true rfl rfl rfl (by decide +kernel)) (pi_list (pe_callC C__law_unlike (hr.mono (by first | decide | exact Nat.le_refl _ | omega)) (by rfl) (pa_cons (pv 0) (pa_cons (pe_op op_add pe_int (pe_callC C__law_draw (hr.mono (by first | decide | exact Nat.le_refl _ | omega)) (by rfl) (pa_cons (pv 0) (pa_cons (pv 1) pa_nil)))) pa_nil)))) (blkOk_by (own := [("name", 6)]) (N := N__law_house) (sc := defScope s__law_house) (by decide +kernel)) (fun _ _ _ _ _ => pg_name (i := 6) sc__law_house.nd rfl (.inl rfl)) (fun _ _ _ _ _ => pts_nil) (fun _ _ _ _ _ => (pe_tup (pa_cons (pv 6) (pa_cons (pe_callC C__law_pairs (hr.mono (by first | decide | exact Nat.le_refl _ | omega)) (by rfl) (pa_cons (pv 0) (pa_cons (pv 4) (pa_cons pe_int (pa_cons (pv 2) pa_nil))))) pa_nil)))))
  (pss_cons (ps_set (i := 8) sc__law_house.nd rfl (.inl rfl) (pe_lst pa_nil))
  (Evl.pss_cut (ps_if (pt_cmpR op_eq (pe_callC C__law_draw (hr.mono (by first | decide | exact Nat.le_refl _ | omega)) (by rfl) (pa_cons (pv 0) (pa_cons pe_int pa_nil))) pe_int (nomark _)) (pss_cons (ps_set (i := 9) sc__law_house.nd rfl (.inl rfl) (pe_lst pa_nil))
  (pss_cons (ps_for PassesOwn.never rfl (pi_range1 (by rfl) M.range (pa_cons (pe_callB call_len_seq (by rfl) M.len (by decide +kernel) (pa_cons (pv 7) pa_nil)) pa_nil)) (pg_name (i := 10) sc__law_house.nd rfl (.inr rfl)) (pss_one (ps_set (i := 9) sc__law_house.nd rfl (.inl rfl) (pe_op op_cat (pv 9) (pe_lc (own := [("other", 17)]) (g := gName 17) (by rfl) sc__law_house.nd (pi_range2 (by rfl) M.range (pa_cons (pe_op op_add (pv 10) pe_int) (pa_cons (pe_callB call_len_seq (by rfl) M.len (by decide +kernel) (pa_cons (pv 7) pa_nil)) pa_nil))) (blkOk_by (own := [("other", 17)]) (N := N__law_house) (sc := defScope s__law_house) (by decide +kernel)) (fun _ _ _ _ _ => pg_name (i := 17) sc__law_house.nd rfl (.inl rfl)) (fun _ _ _ _ _ => pts_nil) (fun _ _ _ _ _ => (pe_tup (pa_cons (pv 10) (pa_cons (pv 17) pa_nil)))))))))
  (pss_one (ps_for PassesOwn.never rfl (pi_range1 (by rfl) M.range (pa_cons (pe_callC C__law_draw (hr.mono (by first | decide | exact Nat.le_refl _ | omega)) (by rfl) (pa_cons (pv 0) (pa_cons (pe_op op_add (pe_callB call_len_seq (by rfl) M.len (by decide +kernel) (pa_cons (pv 9) pa_nil)) pe_int) pa_nil))) pa_nil)) (pg_name (i := 11) sc__law_house.nd rfl (.inl rfl)) (pss_one (ps_expr (pe_bm PySem.F.plainAttrs_list PySem.F.slot_list_append PySem.F.type_list_append mt_append (pv 8) (pa_cons (pe_bm PySem.F.plainAttrs_list PySem.F.slot_list_pop PySem.F.type_list_pop mt_popAt (pv 9) (pa_cons (pe_callC C__law_draw (hr.mono (by first | decide | exact Nat.le_refl _ | omega)) (by rfl) (pa_cons (pv 0) (pa_cons (pe_callB call_len_seq (by rfl) M.len (by decide +kernel) (pa_cons (pv 9) pa_nil)) pa_nil))) pa_nil)) pa_nil)))))))) pss_nil)
  (pss_cons (ps_set (i := 12) sc__law_house.nd rfl (.inl rfl) (pe_lst pa_nil))
  (Evl.pss_cut (ps_for PassesOwn.never rfl (pi_list (pe_callC C__law_unlike (hr.mono (by first | decide | exact Nat.le_refl _ | omega)) (by rfl) (pa_cons (pv 0) (pa_cons (pe_callC C__law_draw (hr.mono (by first | decide | exact Nat.le_refl _ | omega)) (by rfl) (pa_cons (pv 0) (pa_cons pe_int pa_nil))) pa_nil)))) (pg_name (i := 6) sc__law_house.nd rfl (.inl rfl)) (pss_cons (ps_set (i := 13) sc__law_house.nd rfl (.inl rfl) (pe_callTy call_tuple_of (by rfl) M.tuple (by decide +kernel) (pa_cons (pe_callC C__law_chosen (hr.mono (by first | decide | exact Nat.le_refl _ | omega)) (by rfl) (pa_cons (pv 0) (pa_cons (pe_callB call_len_seq (by rfl) M.len (by decide +kernel) (pa_cons (pv 7) pa_nil)) (pa_cons (pe_ix ix_tup (pe_tup (pa_cons pe_int (pa_cons pe_int (pa_cons pe_int pa_nil)))) (pe_callC C__law_draw (hr.mono (by first | decide | exact Nat.le_refl _ | omega)) (by rfl) (pa_cons (pv 0) (pa_cons pe_int pa_nil))) (fun _ _ => rfl)) pa_nil)))) pa_nil)))
  (pss_cons (ps_set (i := 14) sc__law_house.nd rfl (.inl rfl) (pe_callC C__law_pairs (hr.mono (by first | decide | exact Nat.le_refl _ | omega)) (by rfl) (pa_cons (pv 0) (pa_cons (pv 4) (pa_cons (pe_op op_add pe_int (pe_op op_mul pe_int (pe_callC C__law_draw (hr.mono (by first | decide | exact Nat.le_refl _ | omega)) (by rfl) (pa_cons (pv 0) (pa_cons pe_int pa_nil))))) (pa_cons (pe_ix ix_tup (pe_tup (pa_cons (pv 2) (pa_cons pe_int pa_nil))) (pe_callTy call_int1 (by rfl) M.int (by decide +kernel) (pa_cons (pv 5) pa_nil)) (fun _ _ => rfl)) pa_nil))))))
  (pss_cons (ps_set (i := 15) sc__law_house.nd rfl (.inl rfl) (pe_callC C__law_pairs (hr.mono (by first | decide | exact Nat.le_refl _ | omega)) (by rfl) (pa_cons (pv 0) (pa_cons (pv 4) (pa_cons (pe_op op_add pe_int (pe_op op_mul pe_int (pe_callC C__law_draw (hr.mono (by first | decide | exact Nat.le_refl _ | omega)) (by rfl) (pa_cons (pv 0) (pa_cons pe_int pa_nil))))) (pa_cons (pe_ix ix_tup (pe_tup (pa_cons (pv 2) (pa_cons pe_int pa_nil))) (pe_callTy call_int1 (by rfl) M.int (by decide +kernel) (pa_cons (pv 5) pa_nil)) (fun _ _ => rfl)) pa_nil))))))
  (pss_one (ps_expr (pe_bm PySem.F.plainAttrs_list PySem.F.slot_list_append PySem.F.type_list_append mt_append (pv 12) (pa_cons (pe_tup (pa_cons (pv 6) (pa_cons (pe_callC C__law_draw (hr.mono (by first | decide | exact Nat.le_refl _ | omega)) (by rfl) (pa_cons (pv 0) (pa_cons (pe_ix ix_tup (pe_tup (pa_cons (pv 2) (pa_cons pe_int pa_nil))) (pe_callTy call_int1 (by rfl) M.int (by decide +kernel) (pa_cons (pv 5) pa_nil)) (fun _ _ => rfl)) pa_nil))) (pa_cons (pe_op op_add pe_int (pe_callC C__law_draw (hr.mono (by first | decide | exact Nat.le_refl _ | omega)) (by rfl) (pa_cons (pv 0) (pa_cons pe_int pa_nil)))) (pa_cons (pv 13) (pa_cons (pv 14) (pa_cons (pv 15) pa_nil))))))) pa_nil))))))))
  (pss_cons (ps_set (i := 16) sc__law_house.nd rfl (.inl rfl) (pe_lst pa_nil))
  (Evl.pss_cut (ps_for PassesOwn.never rfl (pi_list (pe_callC C__law_unlike (hr.mono (by first | decide | exact Nat.le_refl _ | omega)) (by rfl) (pa_cons (pv 0) (pa_cons (pe_callC C__law_draw (hr.mono (by first | decide | exact Nat.le_refl _ | omega)) (by rfl) (pa_cons (pv 0) (pa_cons pe_int pa_nil))) pa_nil)))) (pg_name (i := 6) sc__law_house.nd rfl (.inl rfl)) (pss_cons (ps_set (i := 14) sc__law_house.nd rfl (.inl rfl) (pe_callC C__law_pairs (hr.mono (by first | decide | exact Nat.le_refl _ | omega)) (by rfl) (pa_cons (pv 0) (pa_cons (pv 4) (pa_cons pe_int (pa_cons (pe_ix ix_tup (pe_tup (pa_cons (pv 2) (pa_cons pe_int pa_nil))) (pe_callTy call_int1 (by rfl) M.int (by decide +kernel) (pa_cons (pv 5) pa_nil)) (fun _ _ => rfl)) pa_nil))))))
  (pss_cons (ps_if (pt_cmpR op_eq (pe_callB call_len_seq (by rfl) M.len (by decide +kernel) (pa_cons (pv 14) pa_nil)) pe_int (nomark _)) (pss_one (ps_set (i := 14) sc__law_house.nd rfl (.inl rfl) (pe_tup (pa_cons (pe_tup (pa_cons (pe_callC C__law_draw (hr.mono (by first | decide | exact Nat.le_refl _ | omega)) (by rfl) (pa_cons (pv 0) (pa_cons (pv 4) pa_nil))) (pa_cons (pe_op op_add pe_int (pe_callC C__law_draw (hr.mono (by first | decide | exact Nat.le_refl _ | omega)) (by rfl) (pa_cons (pv 0) (pa_cons pe_int pa_nil)))) pa_nil))) pa_nil)))) pss_nil)
  (pss_one (ps_expr (pe_bm PySem.F.plainAttrs_list PySem.F.slot_list_append PySem.F.type_list_append mt_append (pv 16) (pa_cons (pe_tup (pa_cons (pv 6) (pa_cons (pe_callC C__law_draw (hr.mono (by first | decide | exact Nat.le_refl _ | omega)) (by rfl) (pa_cons (pv 0) (pa_cons (pe_ix ix_tup (pe_tup (pa_cons (pv 2) (pa_cons pe_int pa_nil))) (pe_callTy call_int1 (by rfl) M.int (by decide +kernel) (pa_cons (pv 5) pa_nil)) (fun _ _ => rfl)) pa_nil))) (pa_cons (pv 14) pa_nil)))) pa_nil)))))))
  (pss_one (ps_ret (pe_tup (pa_cons (pv 3) (pa_cons (pe_callTy call_tuple_of (by rfl) M.tuple (by decide +kernel) (pa_cons (pv 7) pa_nil)) (pa_cons (pe_callTy call_tuple_of (by rfl) M.tuple (by decide +kernel) (pa_cons (pv 8) pa_nil)) (pa_cons (pe_callTy call_tuple_of (by rfl) M.tuple (by decide +kernel) (pa_cons (pv 12) pa_nil)) (pa_cons (pe_callTy call_tuple_of (by rfl) M.tuple (by decide +kernel) (pa_cons (pv 16) pa_nil)) pa_nil)))))))))))))))))), ?_⟩)
  · obtain ⟨p, sc, rfl, _⟩ := h
    rfl
  · obtain ⟨p, sc, rfl, hP, q⟩ := h
    have hsz := sizeLine_eq
    refine ⟨_, rfl, _, rfl, p, 4, rfl, by decide, by decide, sc, hP, fun v o h0 h1 p1 => ?_⟩
    have m1 := (Mv.refl hP).put p1
    replace m1 : Mv p sc H (upd H p o) := m1
    obtain ⟨v, rfl⟩ : ∃ n : Nat, v = (n : Int) := ⟨v.toNat, by omega⟩
    refine ⟨_, _, rfl, rfl, ?_⟩
    dsimp only [tNil]
    refine ⟨p, sc, 1 + v, by rw [Int.natCast_add]; rfl, by omega, p1, fun D zs H1 hD eD lz c1 m2 => ?_⟩
    replace m1 := m1.trans m2
    refine ⟨D, _, rfl, .inl ⟨.inl (.inl eD), fun g hg => ?_⟩⟩
    have ng := m1.pool.ne hg
    have dg : Dp K (cutP (upd H1 g (.tup (zs.map V.str))) p) (.ref g) (.tuple (strD zs)) := .tup (.inl (.inl (cutP_at ng upd_same))) (strD_dpa zs)
    replace m1 := m1.new (o := .tup (zs.map V.str)) hg
    have eg : upd H1 g (.tup (zs.map V.str)) g = some (.tup (zs.map V.str)) := upd_same
    generalize upd H1 g (.tup (zs.map V.str)) = H2 at dg m1 eg ⊢
    refine ⟨_, rfl, _, _, rfl, .inr (.inl (.inl eg)), ?_⟩
    show gName 4 (.int (((zs.map V.str).length : Nat) : Int)) _ H2 _
    rw [List.length_map]
    refine ⟨_, rfl, _, _, rfl, rfl, ?_⟩
    refine ⟨Mid1 K p sc H, ?_, fun σ' H' hm => ?_⟩
    · -- members
      refine ⟨_, rfl, _, rfl, _, rfl, p, 5, rfl, by decide, by decide, sc, m1.pool, fun v2 o2 g0 g1 p2 => ?_⟩
      have m2 := m1.put p2
      obtain ⟨v2, rfl⟩ : ∃ n : Nat, v2 = (n : Int) := ⟨v2.toNat, by omega⟩
      refine ⟨_, _, rfl, rfl, ?_⟩
      dsimp only [tNil]
      refine ⟨p, sc, 1 + v2, by rw [Int.natCast_add]; rfl, by omega, m2.pool, fun J zs2 H3 hJ eJ l2 c2 m3 => ?_⟩
      replace m2 : Mv p sc H (upd H2 p o2) := m2
      have k23 : Kp p H2 H3 := Kp.upd.trans m3.kp
      replace m3 := m2.trans m3
      refine ⟨J, rfl, ⟨_, .inl (.inl eJ)⟩, fun ML hML => ?_⟩
      have nM := m3.pool.ne hML
      have nJ : J ≠ ML := ne_of_none eJ hML
      have lz2 : (zs2.map V.str).length = zs2.length := List.length_map _
      refine lc_list (K := K) (a := J) (xs := zs2.map V.str) (fun i H' => ∃ ms : List Memb, LstD K p H' ML (membT ms) ∧ ms.length = i ∧ (∀ m ∈ ms, AmtOk zs.length m.2) ∧ Mv p sc H3 H' ∧ H' J = some (.lst (zs2.map V.str)))
        ⟨[], ⟨[], upd_same, nM, .nil⟩, rfl, (fun _ h => by cases h), (Mv.refl m3.pool).own m3.pool hML, (same_upd hML) _ _ eJ⟩ (fun i H' _ h => ?_) (fun i x H' hx h => ?_) (fun H' h => ?_)
      · obtain ⟨_, _, _, _, _, e⟩ := h
        exact .inl (.inl e)
      · obtain ⟨ms, ⟨vs, e1, _, d1⟩, k1, b1, mm, e2⟩ := h
        rw [List.getElem?_map] at hx
        cases ez : zs2[i]? with
        | none =>
          rw [ez] at hx
          cases hx
        | some nm =>
        rw [ez] at hx
        obtain rfl := Option.some.inj hx
        refine ⟨rfl, yes_of ?_⟩
        refine ⟨_, rfl, _, rfl, _, rfl, _, rfl, ?_⟩
        dsimp only [tNil]
        refine ⟨p, sc, zs.length, 4, 5, rfl, by omega, by omega, by omega, by omega, mm.pool, fun t l H5 dt lt ok m5 => ?_⟩
        refine ⟨(by show 2 ≤ sizeLine; omega), fun u hu => ?_⟩
        have nu := m5.pool.ne hu
        have e5 := m5.kp ML _ nM e1
        have dv := tup_new hu nu (xs := [.str nm, .ref t]) (es := [.str nm, .tuple (amtD l)]) (.cons (.str _) (.cons dt .nil))
        have e6 := (same_upd (o := .tup [.str nm, .ref t]) hu) _ _ e5
        have kk : Kp p H' (upd H5 u (.tup [.str nm, .ref t])) := m5.kp.trans (Kp.same (same_upd hu))
        have lv := dpa_len d1
        unfold membT at lv
        rw [List.length_map] at lv
        have st := lst_step e6 nM (dpa_same (cutP_same kk) d1) (noL_memb ms) dv (by simp [noL, noLs]; exact noL_amt l)
        have zi : i < zs2.length := (List.getElem?_eq_some_iff.mp ez).1
        refine ⟨vs, e6, by omega, ms ++ [(nm, l)], by unfold membT at st ⊢; rw [List.map_append]; exact st, by rw [List.length_append, k1]; rfl, fun m hm => ?_, ((mm.trans m5).new hu).own m3.pool hML, ?_⟩
        · rcases List.mem_append.mp hm with h | h
          · exact b1 m h
          · rw [List.mem_singleton.mp h]
            exact ok
        · rw [upd_ne nJ]
          exact kk J _ (m2.pool.ne hJ) e2
      · obtain ⟨ms, L1, k1, b1, mm, e2⟩ := h
        rw [lz2] at k1
        exact ⟨g, ML, zs, ms, _, _, _, _, _, _, _, _, _, _, _, rfl, m3.trans mm, dpv_mv dg (k23.trans mm.kp), L1, by omega, by omega, by omega, by omega, b1⟩
    obtain ⟨g, ML, goods, ms, z6, z8, z9, z10, z11, z12, z13, z14, z15, z16, z17, rfl, m1, dg, LM, hg0, hg1, hm0, hm1, hms⟩ := hm
    -- talks
    refine ⟨(by show 0 ≤ sizeLine; omega), fun TL hTL => ?_⟩
    have nT := m1.pool.ne hTL
    have mT : Mv p sc H' (upd H' TL (.lst [])) := (Mv.refl m1.pool).new hTL
    have LT : LstD K p (upd H' TL (.lst [])) TL (amtD []) := ⟨[], upd_same, nT, .nil⟩
    show gName 8 (.ref TL) _ (upd H' TL (.lst [])) _
    generalize upd H' TL (.lst []) = H2 at mT LT ⊢
    refine ⟨Mid2 K p sc H, ?_, fun σ' H' hm => ?_⟩
    · have fin : ∀ (tl : List (Nat × Int)) (H3 : Hp) (z9 z10 z11 z17 : Option V), Mv p sc H' H3 → LstD K p H3 TL (amtD tl) → tl.length ≤ 100 → Mid2 K p sc H [some (.ref p), some (.int 5), some (.int 5), some (.ref g), some (.int ((goods.length : Nat) : Int)), some (.bl true), z6, some (.ref ML), some (.ref TL), z9, z10, z11, z12, z13, z14, z15, z16, z17] H3 :=
        fun tl H3 z9 z10 z11 z17 m l b => ⟨g, ML, TL, goods, ms, tl, _, _, _, _, _, _, _, _, _, _, rfl, m1.trans m, dpv_mv dg m.kp, LM.mv m.kp, l, hg0, hg1, hm0, hm1, hms, b⟩
      refine ⟨_, rfl, p, 2, rfl, by decide, by decide, sc, mT.pool, fun v3 o3 g0 g1 p3 => ?_⟩
      have m3 := mT.put p3
      have LT3 := LT.mv (Kp.upd (o := o3))
      replace m3 : Mv p sc H' (upd H2 p o3) := m3
      refine ⟨rfl, _, rfl, ?_⟩
      show if decide ((.int v3 : V) = .int 0) = true then _ else _
      by_cases c : (.int v3 : V) = .int 0
      · refine ifT (decide_eq_true c) ?_
        refine ⟨(by show 0 ≤ sizeLine; omega), fun LL hLL => ?_⟩
        replace hLL : upd H2 p o3 LL = none := hLL
        have nL := p3.ne hLL
        have nTL : LL ≠ TL := fun z => by
          obtain ⟨vs, e, _⟩ := LT3
          rw [z, e] at hLL
          cases hLL
        have m4 : Mv p sc H' (upd (upd H2 p o3) LL (.lst [])) := m3.new hLL
        have LT4 := LT3.mv (Kp.same (same_upd (o := .lst []) hLL))
        have LL4 : LstD K p (upd (upd H2 p o3) LL (.lst [])) LL (amtD []) := ⟨[], upd_same, nL, .nil⟩
        show gName 9 (.ref LL) _ (upd (upd H2 p o3) LL (.lst [])) _
        have hB : ∀ (b : Addr), upd (upd H2 p o3) LL (.lst []) b = none → H' b = none := fun b hb => by
          cases e : H' b with
          | none => rfl
          | some u =>
            rw [m4.kp b u (m4.pool.ne hb) e] at hb
            cases hb
        have hLB : H' LL = none := by
          cases e : H' LL with
          | none => rfl
          | some u =>
            rw [m3.kp LL u nL e] at hLL
            cases hLL
        generalize upd (upd H2 p o3) LL (.lst []) = H4 at m4 LT4 LL4 hB ⊢
        obtain ⟨vM, eM, lM⟩ := (LM.mv m4.kp).len
        unfold membT at lM
        rw [List.length_map] at lM
        refine ⟨_, rfl, _, _, rfl, .inl (.inl (.inl eM)), _, rfl, by omega, by omega, ?_⟩
        rw [Int.toNat_natCast, lM]
        refine for_range (lo := 0) (n := ms.length) (fun i σ H5 => ∃ (LX : Addr) (lf : List (Nat × Int)) (z10 z17 : Option V), σ = [some (.ref p), some (.int 5), some (.int 5), some (.ref g), some (.int ((goods.length : Nat) : Int)), some (.bl true), z6, some (.ref ML), some (.ref TL), some (.ref LX), z10, z11, z12, z13, z14, z15, z16, z17] ∧
          LstD K p H5 LX (amtD lf) ∧ H' LX = none ∧ LX ≠ TL ∧ lf.length ≤ 5 * i ∧ Same H4 H5) ⟨LL, [], _, _, rfl, LL4, hLB, nTL, by simp, fun _ _ e => e⟩ ?_ ?_
        · rintro i σ H5 hi ⟨LX, lf, z10, z17, rfl, LX5, hLX, nX, bX, s5⟩
          have ez : (0 : Int) + (i : Int) = (i : Int) := Int.zero_add _
          rw [ez]
          refine ⟨_, rfl, _, rfl, _, _, rfl, rfl, _, rfl, _, _, rfl, .inl (.inl (.inl (s5 _ _ eM))), _, _, rfl, ⟨by omega, by omega, by omega, by omega⟩, fun D hD => ?_⟩
          have mB5 : Mv p sc H' H5 := m4.same s5
          have nD := mB5.pool.ne hD
          refine lc_range (lo := (i : Int) + 1) (n := ((vM.length : Int) - ((i : Int) + 1)).toNat) (fun j H6 => ∃ l : List (Nat × Int), LstD K p H6 D (amtD l) ∧ l.length = j ∧ Same H5 H6) ⟨[], ⟨[], upd_same, nD, .nil⟩, rfl, same_upd hD⟩ ?_ ?_
          · rintro j H6 hj ⟨l, ⟨vs, e1, _, d1⟩, k1, s6⟩
            refine ⟨rfl, yes_of ?_⟩
            refine ⟨_, rfl, _, rfl, (by show 2 ≤ sizeLine; omega), fun t ht => ?_⟩
            have nt := (mB5.same s6).pool.ne ht
            obtain ⟨e2, L2⟩ := pair_step (K := K) (a := i) (b := (i : Int) + 1 + (j : Int)) e1 nD d1 ht nt
            have lv := dpa_len d1
            rw [amtD_len] at lv
            exact ⟨vs, e2, by omega, _, L2, by rw [List.length_append, k1]; rfl, same_upd_new (s6.trans (same_upd ht)) hD⟩
          · rintro H6 ⟨l, ⟨vs, e1, _, d1⟩, k1, s6⟩
            obtain ⟨vx, ex, _, dx⟩ := LX5
            have lx := dpa_len dx
            have lv := dpa_len d1
            rw [amtD_len] at lv lx
            refine ⟨LX, D, _, _, rfl, rfl, s6 _ _ ex, e1, by omega, fun q2 hq2 => ?_⟩
            have mB6 : Mv p sc H' H6 := mB5.same s6
            have nq := mB6.pool.ne hq2
            have dX : DpAll K (cutP (upd H6 q2 (.lst (vx ++ vs))) p) (vx ++ vs) (amtD (lf ++ l)) := by
              unfold amtD
              rw [List.map_append]
              exact dpa_append (dpa_same (cutP_same (Kp.same (s6.trans (same_upd hq2)))) dx) (dpa_same (cutP_same (Kp.same (same_upd hq2))) d1)
            refine ⟨q2, lf ++ l, _, _, rfl, ⟨vx ++ vs, upd_same, nq, dX⟩, ?_, fun z => ?_, by rw [List.length_append]; omega, (s5.trans s6).trans (same_upd hq2)⟩
            · exact hB q2 (back_none (s5.trans s6) hq2)
            · obtain ⟨vt, et, _⟩ := LT4
              have := (s5.trans s6) _ _ et
              rw [← z, hq2] at this
              cases this
        · rintro σ H5 ⟨LX, lf, z10, z17, rfl, LX5, hLX, nX, bX, s5⟩
          have m5 : Mv p sc H' H5 := m4.same s5
          have LT5 := LT4.mv (Kp.same s5)
          obtain ⟨vx, ex, lx⟩ := LX5.len
          rw [amtD_len] at lx
          refine ⟨_, rfl, _, rfl, _, _, rfl, .inl (.inl (.inl ex)), _, _, rfl, rfl, p, _, rfl, by omega, by omega, sc, m5.pool, fun v4 o4 r0 r1 p4 => ?_⟩
          have m6 := m5.put p4
          replace m6 : Mv p sc H' (upd H5 p o4) := m6
          refine ⟨_, rfl, by omega, by omega, ?_⟩
          refine for_range (lo := 0) (n := v4.toNat) (fun i σ H7 => ∃ (lg tl : List (Nat × Int)) (z11 : Option V), σ = [some (.ref p), some (.int 5), some (.int 5), some (.ref g), some (.int ((goods.length : Nat) : Int)), some (.bl true), z6, some (.ref ML), some (.ref TL), some (.ref LX), z10, z11, z12, z13, z14, z15, z16, z17] ∧
            LstD K p H7 LX (amtD lg) ∧ LstD K p H7 TL (amtD tl) ∧ lg.length + i = lf.length ∧ tl.length = i ∧ Mv p sc H' H7) ⟨lf, [], _, rfl, LX5.mv (Kp.upd (o := o4)), LT5.mv (Kp.upd (o := o4)), rfl, rfl, m6⟩ ?_ ?_
          · rintro i σ H7 hi ⟨lg, tl, z11, rfl, ⟨vL, eL, nL2, dL⟩, ⟨vT, eT, _, dT⟩, b1, b2, m7⟩
            have lL := dpa_len dL
            have lT := dpa_len dT
            rw [amtD_len] at lL lT
            refine ⟨_, rfl, tyL (.inl (.inl eT)), _, rfl, tyL (.inl (.inl eL)), _, rfl, _, rfl, _, _, rfl, .inl (.inl (.inl eL)), p, _, rfl, by omega, by omega, sc, m7.pool, fun v5 o5 t0 t1 p5 => ?_⟩
            obtain ⟨k, rfl⟩ : ∃ n : Nat, v5 = (n : Int) := ⟨v5.toNat, by omega⟩
            have hk : k < lg.length := by omega
            have m8 := m7.put p5
            replace m8 : Mv p sc H' (upd H7 p o5) := m8
            have kk : Kp p H7 (upd H7 p o5) := Kp.upd
            have e1 : upd H7 p o5 LX = some (.lst vL) := (upd_ne nL2).trans eL
            have e2 : upd H7 p o5 TL = some (.lst vT) := (upd_ne nT).trans eT
            have dL2 := dpa_same (cutP_same kk) dL
            have dT2 := dpa_same (cutP_same kk) dT
            obtain ⟨y, hy, dy⟩ := dpa_at (k := k) (d := .tuple [.int ((lg[k].1 : Nat) : Int), .int lg[k].2]) dL2 (by unfold amtD; rw [List.getElem?_map, List.getElem?_eq_getElem hk]; rfl)
            dsimp only [tNil]
            refine ⟨LX, vL, _, k, y, rfl, rfl, e1, by omega, by omega, by rw [lL]; exact seqIx hk, hy, ?_⟩
            have dLo : DpAll K (cutP (upd (upd H7 p o5) LX (.lst (vL.eraseIdx k))) p) (vL.eraseIdx k) (amtD (lg.eraseIdx k)) := by
              have z := dpa_erase k (dpa_own (o := .lst (vL.eraseIdx k)) e1 nL2 (noL_tl lg) dL2)
              unfold amtD at z ⊢
              rw [er_map] at z
              exact z
            have dTo := dpa_own (o := .lst (vL.eraseIdx k)) e1 nL2 (noL_tl tl) dT2
            have dyo := dp_own (o := .lst (vL.eraseIdx k)) e1 nL2 (by simp [noL, noLs]) dy
            have e3 : upd (upd H7 p o5) LX (.lst (vL.eraseIdx k)) TL = some (.lst vT) := (upd_ne nX.symm).trans e2
            have e4 : upd (upd H7 p o5) LX (.lst (vL.eraseIdx k)) LX = some (.lst (vL.eraseIdx k)) := upd_same
            have m9 : Mv p sc H' (upd (upd H7 p o5) LX (.lst (vL.eraseIdx k))) := m8.own m1.pool hLX
            refine ⟨TL, vT, _, rfl, rfl, e3, by omega, ?_⟩
            have st := lst_step (K := K) e3 nT dTo (noL_tl tl) dyo (by simp [noL, noLs])
            refine ⟨lg.eraseIdx k, tl ++ [lg[k]], _, rfl, ⟨_, (upd_ne nX).trans e4, nL2, dpa_own e3 nT (noL_tl _) dLo⟩, ?_, by rw [List.length_eraseIdx, if_pos hk]; omega, by rw [List.length_append, b2]; rfl, m9.own m1.pool hTL⟩
            unfold amtD at st ⊢
            rw [List.map_append]
            exact st
          · rintro σ H7 ⟨lg, tl, z11, rfl, L1, L2, b1, b2, m7⟩
            exact fin tl _ _ _ _ _ m7 L2 (by omega)
      · refine ifF (decide_eq_false c) ?_
        exact fin [] _ _ _ _ _ m3 LT3 (by decide)
    obtain ⟨g, ML, TL, goods, ms, tl, z6, z9, z10, z11, z12, z13, z14, z15, z16, z17, rfl, m1, dg, LM, LT, hg0, hg1, hm0, hm1, hms, htl⟩ := hm
    -- recipes
    refine ⟨(by show 0 ≤ sizeLine; omega), fun RL hRL => ?_⟩
    have nR := m1.pool.ne hRL
    have mR : Mv p sc H' (upd H' RL (.lst [])) := (Mv.refl m1.pool).new hRL
    have LR : LstD K p (upd H' RL (.lst [])) RL (([] : List Reci).map reciT) := ⟨[], upd_same, nR, .nil⟩
    show gName 12 (.ref RL) _ (upd H' RL (.lst [])) _
    generalize upd H' RL (.lst []) = H2 at mR LR ⊢
    refine ⟨Mid3 K p sc H, ?_, fun σ' H' hm => ?_⟩
    · refine ⟨_, rfl, _, rfl, p, 4, rfl, by decide, by decide, sc, mR.pool, fun v3 o3 g0 g1 p3 => ?_⟩
      obtain ⟨v3, rfl⟩ : ∃ n : Nat, v3 = (n : Int) := ⟨v3.toNat, by omega⟩
      have m3 := mR.put p3
      dsimp only [tNil]
      refine ⟨p, sc, v3, rfl, by omega, p3, fun J zs2 H3 hJ eJ l2 c2 m4 => ?_⟩
      replace m3 : Mv p sc H' (upd H2 p o3) := m3
      have LR3 := (LR.mv (Kp.upd (o := o3))).mv m4.kp
      have m5 := m3.trans m4
      have nJp := m3.pool.ne hJ
      have nJ : J ≠ RL := fun z => by
        obtain ⟨vs, e, _⟩ := LR.mv (Kp.upd (o := o3))
        have hJ2 : upd H2 p o3 J = none := hJ
        rw [z, e] at hJ2
        cases hJ2
      have lz2 : (zs2.map V.str).length = zs2.length := List.length_map _
      refine ⟨J, rfl, ⟨_, .inl (.inl eJ)⟩, ?_⟩
      refine for_list (D := { nx := Mid3 K p sc H, rt := Q }) (K := K) (a := J) (xs := zs2.map V.str) (fun i σ H5 => ∃ (rs : List Reci) (z6 z13 z14 z15 : Option V), σ = [some (.ref p), some (.int 5), some (.int 5), some (.ref g), some (.int ((goods.length : Nat) : Int)), some (.bl true), z6, some (.ref ML), some (.ref TL), z9, z10, z11, some (.ref RL), z13, z14, z15, z16, z17] ∧
        LstD K p H5 RL (rs.map reciT) ∧ rs.length = i ∧ (∀ r ∈ rs, ReciOk goods.length ms.length r) ∧ Mv p sc H' H5 ∧ H5 J = some (.lst (zs2.map V.str))) ⟨[], _, _, _, _, rfl, LR3, rfl, (fun _ h => by cases h), m5, eJ⟩ (fun i σ H5 _ h => ?_) ?_ ?_
      · obtain ⟨_, _, _, _, _, _, _, _, _, _, e⟩ := h
        exact .inl (.inl e)
      · rintro i x σ H5 hx ⟨rs, z6, z13, z14, z15, rfl, L5, k1, b1, mm, e5⟩
        rw [List.getElem?_map] at hx
        cases ez : zs2[i]? with
        | none =>
          rw [ez] at hx
          cases hx
        | some nm =>
        rw [ez] at hx
        obtain rfl := Option.some.inj hx
        have zi : i < zs2.length := (List.getElem?_eq_some_iff.mp ez).1
        obtain ⟨vM, eM, lM⟩ := (LM.mv mm.kp).len
        unfold membT at lM
        rw [List.length_map] at lM
        -- needs
        refine ⟨_, rfl, _, rfl, _, _, rfl, .inl (.inl (.inl eM)), ?_⟩
        refine ⟨(by show 3 ≤ sizeLine; omega), fun tp htp => ?_⟩
        have m6 := mm.new (o := .tup [.int 0, .int 1, .int 2]) htp
        have ntp := mm.pool.ne htp
        have k6 : Kp p H5 (upd H5 tp (.tup [.int 0, .int 1, .int 2])) := Kp.same (same_upd htp)
        refine ⟨_, rfl, p, 3, rfl, by decide, by decide, sc, m6.pool, fun v o a0 a1 pp => ?_⟩
        replace m6 := m6.put pp
        replace k6 := k6.trans (Kp.upd (o := o))
        obtain ⟨v, rfl⟩ : ∃ n : Nat, v = (n : Int) := ⟨v.toNat, by omega⟩
        have h3 : atI [V.int 0, V.int 1, V.int 2] (v : Int) = some (.int (v : Int)) := by
          have : v = 0 ∨ v = 1 ∨ v = 2 := by omega
          rcases this with rfl | rfl | rfl <;> rfl
        refine ⟨tp, _, _, _, rfl, rfl, .inl (.inl ((upd_ne ntp).trans upd_same)), h3, ?_⟩
        dsimp only [tNil]
        refine ⟨p, sc, vM.length, v, rfl, by omega, by omega, m6.pool, fun D js H7 hD eD j1 j2 c1 m7 => ?_⟩
        have m8 := m6.trans m7
        replace k6 := k6.trans m7.kp
        refine ⟨D, _, rfl, .inl ⟨.inl (.inl eD), fun tn htn => ?_⟩⟩
        have ntn := m8.pool.ne htn
        have dn := tup_new htn ntn (natV_dpa (K := K) (H := cutP H7 p) js)
        replace m8 := m8.new (o := .tup (natV js)) htn
        replace k6 := k6.trans (Kp.same (same_upd (o := .tup (natV js)) htn))
        show gName 13 (.ref tn) _ (upd H7 tn (.tup (natV js))) _
        generalize upd H7 tn (.tup (natV js)) = H8 at dn m8 k6 ⊢
        -- T
        refine ⟨_, rfl, _, rfl, _, rfl, p, 2, rfl, by decide, by decide, sc, m8.pool, fun vT oT a0 a1 pp => ?_⟩
        replace m8 := m8.put pp
        replace k6 := k6.trans (Kp.upd (o := oT))
        replace dn := dpv_mv dn (Kp.upd (o := oT))
        obtain ⟨vT, rfl⟩ : ∃ n : Nat, vT = (n : Int) := ⟨vT.toNat, by omega⟩
        refine ⟨_, _, rfl, rfl, .inl ⟨by decide, by decide⟩, _, _, rfl, rfl, ?_⟩
        refine ⟨_, rfl, (by show 2 ≤ sizeLine; omega), fun qT hqT => ?_⟩
        have mq := m8.new (o := .tup [.int 5, .int 3]) hqT
        replace dn := dpv_mv dn (Kp.same (same_upd (o := .tup [.int 5, .int 3]) hqT))
        replace k6 := k6.trans (Kp.same (same_upd (o := .tup [.int 5, .int 3]) hqT))
        refine ⟨_, rfl, .inr ⟨true, rfl, qT, _, _, .int 3, rfl, rfl, .inl (.inl upd_same), rfl, ?_⟩⟩
        have e2 : (2 : Int) + 2 * (vT : Int) = ((2 + 2 * vT : Nat) : Int) := by omega
        refine ⟨p, sc, goods.length, 2 + 2 * vT, 3, congrArg (fun z => [V.ref p, .int ((goods.length : Nat) : Int), .int z, .int 3]) e2, by omega, by omega, by omega, by omega, mq.pool, fun tT lT HT dT _ okT mvT => ?_⟩
        replace m8 := mq.trans mvT
        replace k6 := k6.trans mvT.kp
        replace dn := dpv_mv dn mvT.kp
        show gName 14 (.ref tT) _ HT _
        clear mq
        -- G
        refine ⟨_, rfl, _, rfl, _, rfl, p, 2, rfl, by decide, by decide, sc, m8.pool, fun vG oG a0 a1 pp => ?_⟩
        replace m8 := m8.put pp
        replace k6 := k6.trans (Kp.upd (o := oG))
        replace dn := dpv_mv dn (Kp.upd (o := oG))
        replace dT := dpv_mv dT (Kp.upd (o := oG))
        obtain ⟨vG, rfl⟩ : ∃ n : Nat, vG = (n : Int) := ⟨vG.toNat, by omega⟩
        refine ⟨_, _, rfl, rfl, .inl ⟨by decide, by decide⟩, _, _, rfl, rfl, ?_⟩
        refine ⟨_, rfl, (by show 2 ≤ sizeLine; omega), fun qG hqG => ?_⟩
        have mq := m8.new (o := .tup [.int 5, .int 4]) hqG
        replace dn := dpv_mv dn (Kp.same (same_upd (o := .tup [.int 5, .int 4]) hqG))
        replace dT := dpv_mv dT (Kp.same (same_upd (o := .tup [.int 5, .int 4]) hqG))
        replace k6 := k6.trans (Kp.same (same_upd (o := .tup [.int 5, .int 4]) hqG))
        refine ⟨_, rfl, .inr ⟨true, rfl, qG, _, _, .int 4, rfl, rfl, .inl (.inl upd_same), rfl, ?_⟩⟩
        have e2 : (2 : Int) + 2 * (vG : Int) = ((2 + 2 * vG : Nat) : Int) := by omega
        refine ⟨p, sc, goods.length, 2 + 2 * vG, 4, congrArg (fun z => [V.ref p, .int ((goods.length : Nat) : Int), .int z, .int 4]) e2, by omega, by omega, by omega, by omega, mq.pool, fun tG lG HG dG _ okG mvG => ?_⟩
        replace m8 := mq.trans mvG
        replace k6 := k6.trans mvG.kp
        replace dn := dpv_mv dn mvG.kp
        replace dT := dpv_mv dT mvG.kp
        show gName 15 (.ref tG) _ HG _
        clear mq
        -- append
        obtain ⟨vR, eR, _, dR⟩ := L5.mv k6
        have lR := dpa_len dR
        rw [List.length_map] at lR
        refine ⟨_, rfl, tyL (.inl (.inl eR)), _, rfl, _, rfl, ?_⟩
        refine ⟨_, rfl, (by show 2 ≤ sizeLine; omega), fun qc hqc => ?_⟩
        have kc : Kp p HG (upd HG qc (.tup [.int 5, .int 5])) := Kp.same (same_upd hqc)
        have mc := m8.new (o := .tup [.int 5, .int 5]) hqc
        refine ⟨_, rfl, .inr ⟨true, rfl, qc, _, _, .int 5, rfl, rfl, .inl (.inl upd_same), rfl, ?_⟩⟩
        refine ⟨p, 5, rfl, by decide, by decide, sc, mc.pool, fun vc oc c0 c1' pc => ?_⟩
        have mc2 := mc.put pc
        replace kc := kc.trans (Kp.upd (o := oc))
        refine ⟨_, rfl, p, 4, rfl, by decide, by decide, sc, mc2.pool, fun vt ot t0 t1 pt => ?_⟩
        have mc3 := mc2.put pt
        replace kc := kc.trans (Kp.upd (o := ot))
        refine ⟨_, _, rfl, rfl, _, rfl, _, rfl, _, rfl, ?_⟩
        dsimp only [tNil]
        refine ⟨(by show 6 ≤ sizeLine; omega), fun u hu => ?_⟩
        have nu := mc3.pool.ne hu
        have eR2 := (same_upd (o := .tup [.str nm, .int vc, .int (1 + vt), .ref tn, .ref tT, .ref tG]) hu) _ _ (kc RL _ nR eR)
        have dv := tup_new hu nu (xs := [.str nm, .int vc, .int (1 + vt), .ref tn, .ref tT, .ref tG]) (es := [.str nm, .int vc, .int (1 + vt), .tuple (natD js), .tuple (amtD lT), .tuple (amtD lG)])
          (.cons (.str _) (.cons (.int _) (.cons (.int _) (.cons (dpv_mv dn kc) (.cons (dpv_mv dT kc) (.cons (dpv_mv dG kc) .nil))))))
        refine ⟨RL, vR, _, rfl, rfl, eR2, by omega, ?_⟩
        have st := lst_step (K := K) eR2 nR (dpa_same (cutP_same (kc.trans (Kp.same (same_upd (o := .tup [.str nm, .int vc, .int (1 + vt), .ref tn, .ref tT, .ref tG]) hu)))) dR) (noL_reci rs) dv (by simp [noL, noLs]; exact ⟨noL_nat js, noL_amt lT, noL_amt lG⟩)
        refine ⟨rs ++ [⟨nm, vc, 1 + vt, js, lT, lG⟩], _, _, _, _, rfl, by rw [List.map_append]; exact st, by rw [List.length_append, k1]; rfl, fun r hr2 => ?_, (mc3.new hu).own m1.pool hRL, ?_⟩
        · rcases List.mem_append.mp hr2 with h | h
          · exact b1 r h
          · rw [List.mem_singleton.mp h]
            exact ⟨c0, by show vc ≤ 1000; omega, by show 0 ≤ 1 + vt; omega, by show 1 + vt ≤ 4; omega, fun k hk => by rw [← lM]; exact c1 k hk, by show js.length ≤ 10; omega, okT, okG⟩
        · rw [upd_ne nJ]
          exact (same_upd hu) _ _ (kc J _ nJp (k6 J _ nJp e5))
      · rintro σ H5 ⟨rs, z6, z13, z14, z15, rfl, L5, k1, b1, mm, e5⟩
        rw [lz2] at k1
        exact ⟨g, ML, TL, RL, goods, ms, tl, rs, _, _, _, _, _, _, _, _, _, rfl, m1.trans mm, dpv_mv dg mm.kp, LM.mv mm.kp, LT.mv mm.kp, L5, hg0, hg1, hm0, hm1, hms, htl, by omega, b1⟩
    obtain ⟨g, ML, TL, RL, goods, ms, tl, rs, z6, z9, z10, z11, z13, z14, z15, z16, z17, rfl, m1, dg, LM, LT, LR, hg0, hg1, hm0, hm1, hms, htl, hr0, hrs⟩ := hm
    -- orders
    refine ⟨(by show 0 ≤ sizeLine; omega), fun OL hOL => ?_⟩
    have nR := m1.pool.ne hOL
    have mR : Mv p sc H' (upd H' OL (.lst [])) := (Mv.refl m1.pool).new hOL
    have LO : LstD K p (upd H' OL (.lst [])) OL (([] : List Ordr).map ordT) := ⟨[], upd_same, nR, .nil⟩
    show gName 16 (.ref OL) _ (upd H' OL (.lst [])) _
    generalize upd H' OL (.lst []) = H2 at mR LO ⊢
    refine ⟨Mid4 K p sc H, ?_, fun σ' H' hm => ?_⟩
    · refine ⟨_, rfl, _, rfl, p, 5, rfl, by decide, by decide, sc, mR.pool, fun v3 o3 g0 g1 p3 => ?_⟩
      obtain ⟨v3, rfl⟩ : ∃ n : Nat, v3 = (n : Int) := ⟨v3.toNat, by omega⟩
      have m3 := mR.put p3
      dsimp only [tNil]
      refine ⟨p, sc, v3, rfl, by omega, p3, fun J zs2 H3 hJ eJ l2 c2 m4 => ?_⟩
      replace m3 : Mv p sc H' (upd H2 p o3) := m3
      have LR3 := (LO.mv (Kp.upd (o := o3))).mv m4.kp
      have m5 := m3.trans m4
      have nJp := m3.pool.ne hJ
      have nJ : J ≠ OL := fun z => by
        obtain ⟨vs, e, _⟩ := LO.mv (Kp.upd (o := o3))
        have hJ2 : upd H2 p o3 J = none := hJ
        rw [z, e] at hJ2
        cases hJ2
      have lz2 : (zs2.map V.str).length = zs2.length := List.length_map _
      refine ⟨J, rfl, ⟨_, .inl (.inl eJ)⟩, ?_⟩
      refine for_list (D := { nx := Mid4 K p sc H, rt := Q }) (K := K) (a := J) (xs := zs2.map V.str) (fun i σ H5 => ∃ (os : List Ordr) (z6 z14 z17 : Option V), σ = [some (.ref p), some (.int 5), some (.int 5), some (.ref g), some (.int ((goods.length : Nat) : Int)), some (.bl true), z6, some (.ref ML), some (.ref TL), z9, z10, z11, some (.ref RL), z13, z14, z15, some (.ref OL), z17] ∧
        LstD K p H5 OL (os.map ordT) ∧ os.length = i ∧ (∀ r ∈ os, OrdrOk goods.length r) ∧ Mv p sc H' H5 ∧ H5 J = some (.lst (zs2.map V.str))) ⟨[], _, _, _, rfl, LR3, rfl, (fun _ h => by cases h), m5, eJ⟩ (fun i σ H5 _ h => ?_) ?_ ?_
      · obtain ⟨_, _, _, _, _, _, _, _, _, e⟩ := h
        exact .inl (.inl e)
      · rintro i x σ H5 hx ⟨os, z6, z14, z17, rfl, L5, k1, b1, mm, e5⟩
        rw [List.getElem?_map] at hx
        cases ez : zs2[i]? with
        | none =>
          rw [ez] at hx
          cases hx
        | some nm =>
        rw [ez] at hx
        obtain rfl := Option.some.inj hx
        have zi : i < zs2.length := (List.getElem?_eq_some_iff.mp ez).1
        refine ⟨_, rfl, _, rfl, ?_⟩
        refine ⟨_, rfl, (by show 2 ≤ sizeLine; omega), fun qT hqT => ?_⟩
        have mq := mm.new (o := .tup [.int 5, .int 4]) hqT
        have k6 : Kp p H5 (upd H5 qT (.tup [.int 5, .int 4])) := Kp.same (same_upd hqT)
        refine ⟨_, rfl, .inr ⟨true, rfl, qT, _, _, .int 4, rfl, rfl, .inl (.inl upd_same), rfl, ?_⟩⟩
        refine ⟨p, sc, goods.length, 4, 4, rfl, by omega, by omega, by omega, by omega, mq.pool, fun tT lT HX dT _ okT mvT => ?_⟩
        have m8 := mq.trans mvT
        replace k6 := k6.trans mvT.kp
        show gName 14 (.ref tT) _ HX _
        clear mq
        obtain ⟨xT, hsT, lxT⟩ : ∃ xs : List V, SqT K HX tT xs ∧ xs.length = lT.length := by
          cases dT with
          | @tup _ xs _ h hs =>
            have := dpa_len hs
            rw [amtD_len] at this
            exact ⟨xs, same_seqT cutP_sub h, this⟩
        refine ⟨_, rfl, _, _, rfl, .inr hsT, rfl, _, rfl, ?_⟩
        by_cases c : (.int (xT.length : Int) : V) = .int 0
        · refine ifT (decide_eq_true c) ?_
          refine ⟨_, rfl, _, rfl, p, _, rfl, by omega, by omega, sc, m8.pool, fun va oa a0 a1 pa => ?_⟩
          obtain ⟨va, rfl⟩ : ∃ n : Nat, va = (n : Int) := ⟨va.toNat, by omega⟩
          replace m8 := m8.put pa
          replace k6 := k6.trans (Kp.upd (o := oa))
          refine ⟨_, rfl, p, 3, rfl, by decide, by decide, sc, m8.pool, fun vb ob b0 b1' pb => ?_⟩
          replace m8 := m8.put pb
          replace k6 := k6.trans (Kp.upd (o := ob))
          refine ⟨_, _, rfl, rfl, (by show 2 ≤ sizeLine; omega), fun ta hta => ?_⟩
          have nta := m8.pool.ne hta
          have da := tup_new hta nta (xs := [.int (va : Int), .int (1 + vb)]) (es := [.int (va : Int), .int (1 + vb)]) (K := K) (.cons (.int _) (.cons (.int _) .nil))
          replace m8 := m8.new (o := .tup [.int (va : Int), .int (1 + vb)]) hta
          replace k6 := k6.trans (Kp.same (same_upd (o := .tup [.int (va : Int), .int (1 + vb)]) hta))
          refine ⟨(by show 1 ≤ sizeLine; omega), fun tU htU => ?_⟩
          have ntU := m8.pool.ne htU
          have dU := tup_new htU ntU (xs := [.ref ta]) (es := [.tuple [.int (va : Int), .int (1 + vb)]]) (K := K) (.cons da .nil)
          replace m8 := m8.new (o := .tup [.ref ta]) htU
          replace k6 := k6.trans (Kp.same (same_upd (o := .tup [.ref ta]) htU))
          clear dT okT hsT lxT
          have okU : AmtOk goods.length [(va, 1 + vb)] := ⟨by show 1 ≤ 4; decide, fun x hx => by rw [List.mem_singleton.mp hx]; show va < _; omega, fun x hx => by rw [List.mem_singleton.mp hx]; show 0 ≤ 1 + vb; omega⟩
          have dT : Dp K (cutP _ p) (.ref tU) (.tuple (amtD [(va, 1 + vb)])) := dU
          have okT := okU
          clear dU okU
          show gName 14 (.ref tU) _ (upd (upd (upd (upd HX p oa) p ob) ta (.tup [.int (va : Int), .int (1 + vb)])) tU (.tup [.ref ta])) _
          generalize upd (upd (upd (upd HX p oa) p ob) ta (.tup [.int (va : Int), .int (1 + vb)])) tU (.tup [.ref ta]) = HX at dT m8 k6 ⊢
          generalize [(va, 1 + vb)] = lT at dT okT
          generalize tU = tT at dT ⊢
          obtain ⟨vR, eR, _, dR⟩ := L5.mv k6
          have lR := dpa_len dR
          rw [List.length_map] at lR
          refine ⟨_, rfl, tyL (.inl (.inl eR)), _, rfl, _, rfl, ?_⟩
          refine ⟨_, rfl, (by show 2 ≤ sizeLine; omega), fun qc hqc => ?_⟩
          have kc : Kp p HX (upd HX qc (.tup [.int 5, .int 40])) := Kp.same (same_upd hqc)
          have mc := m8.new (o := .tup [.int 5, .int 40]) hqc
          refine ⟨_, rfl, .inr ⟨true, rfl, qc, _, _, .int 40, rfl, rfl, .inl (.inl upd_same), rfl, ?_⟩⟩
          refine ⟨p, 40, rfl, by decide, by decide, sc, mc.pool, fun vc oc c0 c1' pc => ?_⟩
          have mc2 := mc.put pc
          replace kc := kc.trans (Kp.upd (o := oc))
          refine ⟨_, rfl, ?_⟩
          dsimp only [tNil]
          refine ⟨(by show 3 ≤ sizeLine; omega), fun u hu => ?_⟩
          have nu := mc2.pool.ne hu
          have eR2 := (same_upd (o := .tup [.str nm, .int vc, .ref tT]) hu) _ _ (kc OL _ nR eR)
          have dv := tup_new hu nu (xs := [.str nm, .int vc, .ref tT]) (es := [.str nm, .int vc, .tuple (amtD lT)]) (.cons (.str _) (.cons (.int _) (.cons (dpv_mv dT kc) .nil)))
          refine ⟨OL, vR, _, rfl, rfl, eR2, by omega, ?_⟩
          have st := lst_step (K := K) eR2 nR (dpa_same (cutP_same (kc.trans (Kp.same (same_upd (o := .tup [.str nm, .int vc, .ref tT]) hu)))) dR) (noL_ord os) dv (by simp [noL, noLs]; exact noL_amt lT)
          refine ⟨os ++ [⟨nm, vc, lT⟩], _, _, _, rfl, by rw [List.map_append]; exact st, by rw [List.length_append, k1]; rfl, fun r hr2 => ?_, (mc2.new hu).own m1.pool hOL, ?_⟩
          · rcases List.mem_append.mp hr2 with h | h
            · exact b1 r h
            · rw [List.mem_singleton.mp h]
              exact ⟨c0, by show vc ≤ 1000; omega, okT⟩
          · rw [upd_ne nJ]
            exact (same_upd hu) _ _ (kc J _ nJp (k6 J _ nJp e5))
        · refine ifF (decide_eq_false c) ?_
          obtain ⟨vR, eR, _, dR⟩ := L5.mv k6
          have lR := dpa_len dR
          rw [List.length_map] at lR
          refine ⟨_, rfl, tyL (.inl (.inl eR)), _, rfl, _, rfl, ?_⟩
          refine ⟨_, rfl, (by show 2 ≤ sizeLine; omega), fun qc hqc => ?_⟩
          have kc : Kp p HX (upd HX qc (.tup [.int 5, .int 40])) := Kp.same (same_upd hqc)
          have mc := m8.new (o := .tup [.int 5, .int 40]) hqc
          refine ⟨_, rfl, .inr ⟨true, rfl, qc, _, _, .int 40, rfl, rfl, .inl (.inl upd_same), rfl, ?_⟩⟩
          refine ⟨p, 40, rfl, by decide, by decide, sc, mc.pool, fun vc oc c0 c1' pc => ?_⟩
          have mc2 := mc.put pc
          replace kc := kc.trans (Kp.upd (o := oc))
          refine ⟨_, rfl, ?_⟩
          dsimp only [tNil]
          refine ⟨(by show 3 ≤ sizeLine; omega), fun u hu => ?_⟩
          have nu := mc2.pool.ne hu
          have eR2 := (same_upd (o := .tup [.str nm, .int vc, .ref tT]) hu) _ _ (kc OL _ nR eR)
          have dv := tup_new hu nu (xs := [.str nm, .int vc, .ref tT]) (es := [.str nm, .int vc, .tuple (amtD lT)]) (.cons (.str _) (.cons (.int _) (.cons (dpv_mv dT kc) .nil)))
          refine ⟨OL, vR, _, rfl, rfl, eR2, by omega, ?_⟩
          have st := lst_step (K := K) eR2 nR (dpa_same (cutP_same (kc.trans (Kp.same (same_upd (o := .tup [.str nm, .int vc, .ref tT]) hu)))) dR) (noL_ord os) dv (by simp [noL, noLs]; exact noL_amt lT)
          refine ⟨os ++ [⟨nm, vc, lT⟩], _, _, _, rfl, by rw [List.map_append]; exact st, by rw [List.length_append, k1]; rfl, fun r hr2 => ?_, (mc2.new hu).own m1.pool hOL, ?_⟩
          · rcases List.mem_append.mp hr2 with h | h
            · exact b1 r h
            · rw [List.mem_singleton.mp h]
              exact ⟨c0, by show vc ≤ 1000; omega, okT⟩
          · rw [upd_ne nJ]
            exact (same_upd hu) _ _ (kc J _ nJp (k6 J _ nJp e5))
      · rintro σ H5 ⟨os, z6, z14, z17, rfl, L5, k1, b1, mm, e5⟩
        rw [lz2] at k1
        exact ⟨g, ML, TL, RL, OL, goods, ms, tl, rs, os, _, _, _, _, _, _, _, _, rfl, m1.trans mm, dpv_mv dg mm.kp, LM.mv mm.kp, LT.mv mm.kp, LR.mv mm.kp, L5, ⟨hg0, hg1, hm0, hm1, hms, htl, hr0, hrs, by show os.length ≤ 5; omega, b1⟩⟩
    obtain ⟨g, ML, TL, RL, OL, goods, ms, tl, rs, os, z6, z9, z10, z11, z13, z14, z15, z17, rfl, m1, dg, LM, LT, LR, LO, ok⟩ := hm
    obtain ⟨v1, e1, _, d1⟩ := LM
    refine ⟨_, rfl, _, rfl, ML, v1, rfl, .inl ⟨.inl (.inl e1), fun t1 ht1 => ?_⟩⟩
    have D1 := tup_new ht1 (m1.pool.ne ht1) d1
    have k1 : Kp p H' (upd H' t1 (.tup v1)) := Kp.same (same_upd ht1)
    have n1 := m1.new (o := .tup v1) ht1
    obtain ⟨v2, e2, _, d2⟩ := LT.mv k1
    refine ⟨_, rfl, TL, v2, rfl, .inl ⟨.inl (.inl e2), fun t2 ht2 => ?_⟩⟩
    have D2 := tup_new ht2 (n1.pool.ne ht2) d2
    have s2 : Kp p (upd H' t1 (.tup v1)) (upd (upd H' t1 (.tup v1)) t2 (.tup v2)) := Kp.same (same_upd ht2)
    have n2 := n1.new (o := .tup v2) ht2
    obtain ⟨v3, e3, _, d3⟩ := LR.mv (k1.trans s2)
    refine ⟨_, rfl, RL, v3, rfl, .inl ⟨.inl (.inl e3), fun t3 ht3 => ?_⟩⟩
    have D3 := tup_new ht3 (n2.pool.ne ht3) d3
    have s3 := Kp.same (p := p) (same_upd (o := .tup v3) ht3)
    have n3 := n2.new (o := .tup v3) ht3
    obtain ⟨v4, e4, _, d4⟩ := LO.mv ((k1.trans s2).trans s3)
    refine ⟨_, rfl, OL, v4, rfl, .inl ⟨.inl (.inl e4), fun t4 ht4 => ?_⟩⟩
    have D4 := tup_new ht4 (n3.pool.ne ht4) d4
    have s4 := Kp.same (p := p) (same_upd (o := .tup v4) ht4)
    have n4 := n3.new (o := .tup v4) ht4
    dsimp only [tNil]
    refine ⟨(by show 5 ≤ sizeLine; omega), fun t5 ht5 => ?_⟩
    have D5 := tup_new ht5 (n4.pool.ne ht5) (xs := [.ref g, .ref t1, .ref t2, .ref t3, .ref t4]) (es := housT ⟨goods, ms, tl, rs, os⟩)
      (.cons (dpv_mv dg (((k1.trans s2).trans s3).trans s4)) (.cons (dpv_mv D1 ((s2.trans s3).trans s4)) (.cons (dpv_mv D2 (s3.trans s4)) (.cons (dpv_mv D3 s4) (.cons D4 .nil)))))
    exact q t5 _ _ D5 ok (n4.new ht5)
end

end NG
namespace NG
open PySem PySem.Calls PyProof.Rows PyProof.V PySem.Spec L2
/-! ### list(enumerate(xs)): the list keeps the pairs, so each next finds the last pair alive -/
section
variable {prog : Program} {w : World} {A : Around} {E : Value → Shared → Prop} {s : Shared}
/-- an enumerate that has handed out the tuple at a -/
abbrev EnO (h : Heap) (e it : Addr) (i : Int) (item : Value) (a : Addr) (f : Bool) : Prop :=
  h.get? e = some { cls := .type "enumerate", dict := none, data := .fields #[rawInt a, .bool f, .ref it, rawInt i, .none, item], slots := #[] }
theorem alive_ok {a : Addr} {o : Obj} {Q : Option Obj → Shared → Prop} (ho : s.heap.get? a = some o) (h : Q (some o) s) : wpAny (model prog w) A (loadIfAlive a) Q E s := by
  have z : Q (s.heap.get? a) s := by rw [ho]; exact h
  exact fun _ _ _ => z
theorem en_next {e it l a : Addr} {i : Nat} {f : Bool} {items : Array Value} {x item : Value} {oa : Obj} {Q : Value → Shared → Prop}
    (he : EnO s.heap e it i item a f) (ha : s.heap.get? a = some oa) (hae : a ≠ e) (hai : a ≠ it) (hit : s.heap.IsListIter it l i) (hl : s.heap.IsList l items) (hx : items[i]? = some x) (hne : e ≠ it)
    (hQ : ∀ h', EnO h' e it ((i : Int) + 1) item a true → h'.IsListIter it l (i + 1) → h'.get? s.heap.objs.size = some { cls := .type "tuple", data := .seq #[.int i s.toks, x] } → h'.objs.size = s.heap.objs.size + 1 →
      (∀ b o, b ≠ e → b ≠ it → s.heap.get? b = some o → h'.get? b = some o) → Q (.ref s.heap.objs.size) { s with heap := h', toks := s.toks + 1 }) :
    wpAny (model prog w) A (Builtin.«enumerate.__next__» ⟨[.ref e], []⟩) (fun fin s' => ∃ v, fin = .done (.ret v) ∧ Q v s') E s := by
  obtain ⟨hp, g, d, tk, os⟩ := s
  show wpAny _ _ (field (.ref e) 2 >>= _) _ _ _
  refine wpAny_bind (wpAny_field he rfl (x := .ref it) rfl (wpAny_bind (wpAny_nextOf_list_item hit hl hx fun h₁ hit₁ hs₁ => ?_)))
  replace hs₁ : Heap.SameBut it hp h₁ := hs₁
  have g₁ : EnO h₁ e it i item a f := (hs₁.2 e hne).trans he
  show wpAny _ _ (field (.ref e) 3 >>= _) _ _ ⟨h₁, g, d, tk, os⟩
  refine wpAny_bind (wpAny_field g₁ rfl (x := rawInt i) rfl ?_)
  show wpAny _ _ (field (.ref e) 4 >>= _) _ _ ⟨h₁, g, d, tk, os⟩
  refine wpAny_bind (wpAny_field g₁ rfl (x := .none) rfl ?_)
  show wpAny _ _ (mkInt i >>= _) _ _ ⟨h₁, g, d, tk, os⟩
  refine wpAny_bind (wpAny_mkInt ?_)
  show wpAny _ _ (setField (.ref e) 3 (rawInt ((i : Int) + 1)) >>= _) _ _ ⟨h₁, g, d, tk + 1, os⟩
  refine wpAny_bind (wpAny_setField_rec g₁ (by simp) fun h₂ g₂ hs₂ => ?_)
  replace hs₂ : Heap.SameBut e h₁ h₂ := hs₂
  replace g₂ : EnO h₂ e it ((i : Int) + 1) item a f := g₂
  show wpAny _ _ (setField (.ref e) 4 .none >>= _) _ _ ⟨h₂, g, d, tk + 1, os⟩
  refine wpAny_bind (wpAny_setField_rec g₂ (by simp) fun h₃ g₃ hs₃ => ?_)
  replace hs₃ : Heap.SameBut e h₂ h₃ := hs₃
  replace g₃ : EnO h₃ e it ((i : Int) + 1) item a f := g₃
  show wpAny _ _ (newTuple [.int i tk, x] >>= _) _ _ ⟨h₃, g, d, tk + 1, os⟩
  refine wpAny_bind (wpAny_newTuple ?_)
  have g₄ : EnO (h₃.push { cls := .type "tuple", data := .seq #[.int i tk, x] }) e it ((i : Int) + 1) item a f := Heap.get?_push_of_some _ g₃
  generalize hh₄ : h₃.push { cls := .type "tuple", data := .seq #[.int i tk, x] } = h₄ at g₄
  have hsz : h₃.objs.size = hp.objs.size := by rw [hs₃.1, hs₂.1, hs₁.1]
  have hel : e < hp.objs.size := Heap.lt_size he
  have ht₄ : h₄.get? hp.objs.size = some { cls := .type "tuple", data := .seq #[.int i tk, x] } := by
    rw [← hh₄, ← hsz]
    exact Heap.get?_push_size _ rfl
  have hz₄ : h₄.objs.size = hp.objs.size + 1 := by rw [← hh₄, Heap.size_push, hsz]
  have hk₄ : ∀ b o, b ≠ e → b ≠ it → hp.get? b = some o → h₄.get? b = some o := fun b o hbe hbi hb => by
    rw [← hh₄]
    exact Heap.get?_push_of_some _ (hs₃.extBut b o hbe (hs₂.extBut b o hbe (hs₁.extBut b o hbi hb)))
  have hit₄ : h₄.IsListIter it l (i + 1) := by
    rw [← hh₄]
    obtain ⟨o, ho, r⟩ := (hit₁.extBut hs₂.extBut (Ne.symm hne)).extBut hs₃.extBut (Ne.symm hne)
    exact ⟨o, Heap.get?_push_of_some _ ho, r⟩
  have ha₄ : h₄.get? a = some oa := hk₄ a oa hae hai ha
  show wpAny _ _ (Builtin.SmallTypes.ownedTupleIsFree (.ref e) >>= _) _ _ ⟨h₄, g, d, tk + 1, os⟩
  rw [hsz]
  clear hh₄ g₃ hs₃ g₂ hs₂ g₁ hs₁ hit₁ hsz h₃ h₂ h₁
  refine wpAny_bind ?_
  unfold Builtin.SmallTypes.ownedTupleIsFree
  refine wpAny_bind (wpAny_field g₄ rfl (x := rawInt a) rfl ?_)
  show wpAny _ _ (loadIfAlive ((a : Int).toNat) >>= _) _ _ _
  rw [Int.toNat_natCast]
  refine wpAny_bind (alive_ok ha₄ ?_)
  simp only [Option.isNone_some, Bool.false_eq_true, if_false]
  refine wpAny_bind (wpAny_field g₄ rfl (x := .bool f) rfl ?_)
  have fin : ∀ h₅ : Heap, EnO h₅ e it ((i : Int) + 1) item a true → Heap.SameBut e h₄ h₅ → Q (.ref hp.objs.size) ⟨h₅, g, d, tk + 1, os⟩ := fun h₅ g₅ hs₅ =>
    hQ h₅ g₅ (hit₄.extBut hs₅.extBut (Ne.symm hne)) (hs₅.extBut _ _ (Nat.ne_of_gt hel) ht₄) (by show h₅.objs.size = hp.objs.size + 1; rw [hs₅.1, hz₄]) fun b o hbe hbi hb => hs₅.extBut b o hbe (hk₄ b o hbe hbi hb)
  cases f with
  | true =>
    rw [if_neg (show ¬ ((Value.bool true != Value.bool true) = true) from Bool.false_ne_true)]
    refine wpAny_pure ?_
    simp only [Bool.false_eq_true, if_false]
    exact wpAny_pure ⟨_, rfl, fin h₄ g₄ (Heap.SameBut.refl _ _)⟩
  | false =>
    rw [if_pos (show (Value.bool false != Value.bool true) = true from rfl)]
    refine wpAny_bind (wpAny_setField_rec g₄ (by simp) fun h₅ g₅ hs₅ => ?_)
    replace hs₅ : Heap.SameBut e h₄ h₅ := hs₅
    replace g₅ : EnO h₅ e it ((i : Int) + 1) item a true := g₅
    refine wpAny_pure ?_
    simp only [Bool.false_eq_true, if_false]
    exact wpAny_pure ⟨_, rfl, fin h₅ g₅ hs₅⟩
end
/-- where the walk stands: nothing handed out yet, or the last pair alive -/
structure EnSt (h : Heap) (e it l S : Addr) (i : Nat) : Prop where
  iter : h.IsListIter it l i
  ne : e ≠ it
  eS : e ≠ S
  iS : it ≠ S
  st : (∃ old, IsEnum h e it ((i : Nat) : Int) old) ∨ ∃ (item : Value) (a : Addr) (f : Bool) (oa : Obj), EnO h e it ((i : Nat) : Int) item a f ∧ h.get? a = some oa ∧ a ≠ e ∧ a ≠ it ∧ a ≠ S
theorem EnSt.at_ {h h' : Heap} {e it l S : Addr} {i : Nat} (x : EnSt h e it l S i) (hk : ∀ b o, b ≠ S → h.get? b = some o → h'.get? b = some o) : EnSt h' e it l S i := by
  refine ⟨?_, x.ne, x.eS, x.iS, ?_⟩
  · obtain ⟨o, ho, r⟩ := x.iter
    exact ⟨o, hk it o x.iS ho, r⟩
  · rcases x.st with ⟨old, q⟩ | ⟨item, a, f, oa, q, ha, n1, n2, n3⟩
    · exact .inl ⟨old, hk e _ x.eS q⟩
    · exact .inr ⟨item, a, f, oa, hk e _ x.eS q, hk a oa n3 ha, n1, n2, n3⟩
section
variable {prog : Program} {w : World} {A : Around} {E : Value → Shared → Prop} {s : Shared}
theorem en_item {e it l S : Addr} {i : Nat} {items : Array Value} {x : Value} {Q : Option Value → Shared → Prop} (z : EnSt s.heap e it l S i) (hS : S < s.heap.objs.size) (hl : s.heap.IsList l items) (hx : items[i]? = some x)
    (hQ : ∀ h', EnSt h' e it l S (i + 1) → h'.get? s.heap.objs.size = some { cls := .type "tuple", data := .seq #[.int ((i : Nat) : Int) s.toks, x] } → h'.objs.size = s.heap.objs.size + 1 →
      (∀ b o, b ≠ e → b ≠ it → s.heap.get? b = some o → h'.get? b = some o) → Q (some (.ref s.heap.objs.size)) { s with heap := h', toks := s.toks + 1 }) : wpAny (model prog w) A (pyNext (.ref e)) Q E s := by
  have e1 : ((i + 1 : Nat) : Int) = ((i : Nat) : Int) + 1 := by omega
  have hi : it < s.heap.objs.size := by
    obtain ⟨o, ho, _⟩ := z.iter
    exact Heap.lt_size ho
  rcases z.st with ⟨old, q⟩ | ⟨item, a, f, oa, q, ha, n1, n2, n3⟩
  · refine wpAny_pyNext_enum_item q z.iter hl hx z.ne fun h' ho hit' ht hz hk => hQ h' ⟨hit', z.ne, z.eS, z.iS, .inr ⟨x, s.heap.objs.size, false, _, ?_, ht, Nat.ne_of_gt (Heap.lt_size q), Nat.ne_of_gt hi, Nat.ne_of_gt hS⟩⟩ ht hz hk
    rw [e1]
    exact ho
  · have hT : s.TypeIs (.ref e) "enumerate" := ⟨_, q, rfl⟩
    unfold pyNext
    refine wpAny_bind (wpAny_attempt (wpAny_callSpecial?_slot (name := Str.ofString "__next__") hT F.slot_enumerate_next (wpAny_call_entry F.slot_enumerate_next hT F.entry_enumerate_next
      (en_next q ha n1 n2 z.iter hl hx z.ne fun h' g hit' ht hz hk => wpAny_pure (hQ h' ⟨hit', z.ne, z.eS, z.iS, .inr ⟨item, a, true, oa, ?_, hk a oa n1 n2 ha, n1, n2, n3⟩⟩ ht hz hk)) (F.args_enumerate_next_1 _))))
    rw [e1]
    exact g
theorem en_done {e it l S : Addr} {i : Nat} {items : Array Value} {Q : Option Value → Shared → Prop} (hh : A.handled = none) (z : EnSt s.heap e it l S i) (hl : s.heap.IsList l items) (hx : items[i]? = none)
    (hQ : ∀ h', Heap.ExtBut it s.heap h' → Q none { s with heap := h' }) : wpAny (model prog w) A (pyNext (.ref e)) Q E s := by
  rcases z.st with ⟨old, q⟩ | ⟨item, a, f, oa, q, ha, n1, n2, n3⟩
  · exact wpAny_pyNext_enum_end hh q z.iter hl hx hQ
  · have hT : s.TypeIs (.ref e) "enumerate" := ⟨_, q, rfl⟩
    unfold pyNext
    refine wpAny_bind (wpAny_attempt (wpAny_callSpecial?_slot (name := Str.ofString "__next__") hT F.slot_enumerate_next (wpAny_call_entry F.slot_enumerate_next hT F.entry_enumerate_next ?_ (F.args_enumerate_next_1 _))))
    show wpAny _ _ (field (.ref e) 2 >>= _) _ _ _
    refine wpAny_bind (wpAny_field q rfl (x := .ref it) rfl (wpAny_bind (wpAny_nextOf_list_end hh z.iter hl hx fun h' x k1 k2 => ?_)))
    obtain ⟨o, ho, hc⟩ := k2
    exact wpAny_bind (wpAny_isInstance (T := "StopIteration") (b := true) ⟨o, ho, hc⟩ isSubtype_stop (wpAny_pure (hQ _ k1)))
end
/-- at the addresses as the pairs of the items, one behind the other, all younger than lo -/
structure EnG (items : Array Value) (lo : Addr) (h : Heap) (as : List Addr) : Prop where
  rise : as.Pairwise (· < ·)
  above : ∀ a ∈ as, lo < a
  pairs : ∀ (j : Nat) (a : Addr), as[j]? = some a → ∃ (x : Value) (tk : Nat), items[j]? = some x ∧ h.get? a = some { cls := .type "tuple", data := .seq #[.int ((j : Nat) : Int) tk, x] }
section
variable {prog : Program} {w : World} {A : Around} {s : Shared} {R : Result → Shared → Prop} {items : Array Value}
theorem en_loop {S e it l : Addr} (hh : A.handled = none) (hlS : l ≠ S) (hle : l ≠ e) (hli : l ≠ it) (heS : e < S) (hiS : it < S) (hn : items.size ≤ sizeLine) (res : Value) {h₁ : Heap}
    (hR : ∀ h' tk acc c as, (∀ b o, b ≠ S → b ≠ e → b ≠ it → h₁.get? b = some o → h'.get? b = some o) → h'.get? S = some { cls := .type "list", dict := none, data := .seq acc c, slots := #[] } → as.length = items.size → EnG items S h' as →
      acc.toList = as.map Value.ref → R (.ok (.ret res)) { s with heap := h', toks := tk }) :
    ∀ (k i : Nat) (h : Heap) (tk c : Nat) (acc : Array Value) (as : List Addr), items.size - i = k → i ≤ items.size → EnSt h e it l S i → h.IsList l items → (∀ b o, b ≠ S → b ≠ e → b ≠ it → h₁.get? b = some o → h.get? b = some o) →
      h.get? S = some { cls := .type "list", dict := none, data := .seq acc c, slots := #[] } → acc.toList = as.map Value.ref → as.length = i → EnG items S h as →
      codeAny (model prog w) A (.builtin "list.extend.loop" ⟨[.ref S, .ref e, res], []⟩) R { s with heap := h, toks := tk } := by
  intro k
  induction k with
  | zero =>
    intro i h tk c acc as hk hi z hL hkeep hS hacc hal hG
    have hin : i = items.size := by omega
    refine codeAny_builtin PySem.F.entry_extend_loop ?_
    rw [Around.under_plainId PySem.F.plain_extend_loop _]
    show wpAny _ A.in1 (pyNext (.ref e) >>= _) _ _ _
    refine wpAny_bind (en_done (s := { s with heap := h, toks := tk }) (A := A.in1) hh z hL (by rw [hin]; simp) fun h' k1 => ?_)
    refine wpAny_pure (hR h' tk acc c as (fun b o n1 n2 n3 q => k1 b o n3 (hkeep b o n1 n2 n3 q)) (k1 S _ (Nat.ne_of_gt hiS) hS) (by omega) ⟨hG.rise, hG.above, fun j a hj => ?_⟩ hacc)
    obtain ⟨x, t, q1, q2⟩ := hG.pairs j a hj
    exact ⟨x, t, q1, k1 a _ (Nat.ne_of_gt (Nat.lt_trans hiS (hG.above a (List.mem_of_getElem? hj)))) q2⟩
  | succ k ih =>
    intro i h tk c acc as hk hi z hL hkeep hS hacc hal hG
    have hlt : i < items.size := by omega
    have hsz : acc.size = i := by rw [← Array.length_toList, hacc, List.length_map, hal]
    have hSl : S < h.objs.size := Heap.lt_size hS
    have hx : items[i]? = some items[i] := by simp [hlt]
    refine codeAny_builtin PySem.F.entry_extend_loop ?_
    rw [Around.under_plainId PySem.F.plain_extend_loop _]
    show wpAny _ A.in1 (pyNext (.ref e) >>= _) _ _ _
    refine wpAny_bind (en_item (s := { s with heap := h, toks := tk }) z hSl hL hx fun h' z' ht hz hkp => ?_)
    dsimp only at ht hz hkp ⊢
    have hS' := hkp S _ (Nat.ne_of_gt heS) (Nat.ne_of_gt hiS) hS
    have up : ∀ b o, b ≠ S → h'.get? b = some o → (h'.update S (Obj.mapSeq (·.push (Value.ref h.objs.size)))).get? b = some o := fun b o hb q => (Heap.get?_update_other _ _ (Ne.symm hb)).trans q
    have hL' : (h'.update S (Obj.mapSeq (·.push (Value.ref h.objs.size)))).IsList l items := by
      obtain ⟨o, ho, r⟩ := hL
      exact ⟨o, up l o hlS (hkp l o hle hli ho), r⟩
    show wpAny _ A.in1 (updateSeq S (·.push (Value.ref h.objs.size)) >>= _) _ _ _
    refine wpAny_bind (wpAny_updateSeq hS' rfl (wpAny_pure ⟨plainId_quiet PySem.F.plain_extend_loop _, ih (i + 1) _ (tk + 1) _ (acc.push (Value.ref h.objs.size)) (as ++ [h.objs.size]) (by omega) hlt (z'.at_ up) hL'
      (fun b o n1 n2 n3 q => up b o n1 (hkp b o n2 n3 (hkeep b o n1 n2 n3 q))) (Heap.get?_update_self _ hS' rfl) (by rw [Array.toList_push, hacc, List.map_append]; rfl) (by rw [List.length_append, hal]; rfl) ⟨?_, ?_, ?_⟩⟩) (by rw [hsz]; omega) (by show (acc.push (Value.ref h.objs.size)).size ≤ sizeLine + 1; rw [Array.size_push, hsz]; omega))
    · refine List.pairwise_append.mpr ⟨hG.rise, List.pairwise_singleton _ _, fun a ha b hb => ?_⟩
      rw [List.mem_singleton.mp hb]
      obtain ⟨j, hj⟩ := List.mem_iff_getElem?.mp ha
      obtain ⟨_, _, _, q⟩ := hG.pairs j a hj
      exact Heap.lt_size q
    · intro a ha
      rcases List.mem_append.mp ha with ha | ha
      · exact hG.above a ha
      · rw [List.mem_singleton.mp ha]
        exact hSl
    · intro j b hj
      by_cases c1 : j < as.length
      · rw [List.getElem?_append_left c1] at hj
        obtain ⟨x, t, q1, q2⟩ := hG.pairs j b hj
        have hb := hG.above b (List.mem_of_getElem? hj)
        exact ⟨x, t, q1, up b _ (Nat.ne_of_gt hb) (hkp b _ (Nat.ne_of_gt (Nat.lt_trans heS hb)) (Nat.ne_of_gt (Nat.lt_trans hiS hb)) q2)⟩
      · rw [List.getElem?_append_right (by omega)] at hj
        have z0 : j - as.length = 0 := by
          have := (List.getElem?_eq_some_iff.mp hj).1
          simp at this
          omega
        rw [z0] at hj
        have eb : h.objs.size = b := Option.some.inj hj
        have ej : j = i := by omega
        subst eb
        subst ej
        exact ⟨_, tk, hx, up _ _ (Nat.ne_of_gt hSl) ht⟩
end

theorem en_len : typeLookup (.type "enumerate") "__len__" = pure none := by
  rw [typeLookup_type, builtinLookup_eq_fast]
  kernel_rfl
theorem en_hint0 : typeLookup (.type "enumerate") "__length_hint__" = pure none := by
  rw [typeLookup_type, builtinLookup_eq_fast]
  kernel_rfl
section
variable {prog : Program} {w : World} {A : Around} {E : Value → Shared → Prop} {s : Shared} {r : Addr}
theorem en_hint (hT : s.TypeIs (.ref r) "enumerate") {Q : Bool → Shared → Prop} (h : Q true s) : wpAny (model prog w) A (Builtin.List.listLengthHint (.ref r)) Q E s := by
  unfold Builtin.List.listLengthHint
  refine wpAny_bind (wpAny_specialOf hT en_len ?_)
  dsimp only
  refine wpAny_ite_split (fun c => absurd c (by decide)) (fun _ => ?_)
  refine wpAny_ite_split (fun c => absurd c (by decide)) (fun _ => ?_)
  exact wpAny_bind (wpAny_specialOf hT en_hint0 (wpAny_pure h))
end
section
variable {prog : Program} {w : World} {A : Around} {E : Value → Shared → Prop} {s : Shared} {e it l S : Addr} {items : Array Value}
theorem en_extend {R : Result → Shared → Prop} (hh : A.handled = none) {old : Value} (he : IsEnum s.heap e it 0 old) (hit : s.heap.IsListIter it l 0) (hL : s.heap.IsList l items) (hne : e ≠ it) (hle : l ≠ e) (hli : l ≠ it) (hlS : l ≠ S) (heS : e < S) (hiS : it < S) (res : Value) (c₀ : Nat)
    (hS : s.heap.get? S = some { cls := .type "list", data := .seq #[] c₀ })
    (hR : ∀ h' tk acc c as, (∀ b o, b ≠ S → b ≠ e → b ≠ it → s.heap.get? b = some o → h'.get? b = some o) → h'.get? S = some { cls := .type "list", dict := none, data := .seq acc c, slots := #[] } → as.length = items.size → EnG items S h' as →
      acc.toList = as.map Value.ref → R (.ok (.ret res)) { s with heap := h', toks := tk }) (hn : items.size ≤ sizeLine) :
    wpAny (model prog w) A.in1 (Builtin.List.listExtendWith (.ref S) (.ref e) res)
      (fun fin s' => match fin with | .done f => R (.ok f) s' | .again c' => c'.quiet = true ∧ codeAny (model prog w) A c' R s') (fun e s' => R (.error e) s') s := by
  have hT : s.TypeIs (.ref e) "enumerate" := ⟨_, he, rfl⟩
  have key : ∀ (h : Heap) (c₁ tk : Nat), (∀ b o, b ≠ S → s.heap.get? b = some o → h.get? b = some o) → h.get? S = some { cls := .type "list", data := .seq #[] c₁ } →
      codeAny (model prog w) A (.builtin "list.extend.loop" ⟨[.ref S, .ref e, res], []⟩) R { s with heap := h, toks := tk } := by
    intro h c₁ tk hk h1
    have z0 : EnSt s.heap e it l S 0 := ⟨hit, hne, Nat.ne_of_lt heS, Nat.ne_of_lt hiS, .inl ⟨old, he⟩⟩
    have hL1 : h.IsList l items := by
      obtain ⟨o, ho, r⟩ := hL
      exact ⟨o, hk l o hlS ho, r⟩
    exact en_loop (s := s) (h₁ := s.heap) hh hlS hle hli heS hiS hn res hR items.size 0 h tk c₁ #[] [] (Nat.sub_zero _) (Nat.zero_le _) (z0.at_ hk) hL1 (fun b o n1 _ _ q => hk b o n1 q) h1 rfl rfl ⟨.nil, (fun _ m => nomatch m), (fun j a q => by simp at q)⟩
  unfold Builtin.List.listExtendWith
  refine wpAny_bind (wpAny_typeOf (T := "enumerate") hT ?_)
  have h1 : Builtin.List.listSameRef (.ref S) (.ref e) = false := by simp [Builtin.List.listSameRef, Nat.ne_of_gt heS]
  have h2 : (Value.type "enumerate" == Value.type "list") = false := by decide
  have h3 : (Value.type "enumerate" == Value.type "tuple") = false := by decide
  simp only [h1, h2, h3, Bool.or_false, Bool.false_eq_true, if_false]
  refine wpAny_bind (wpAny_pyIter_enum he (wpAny_bind (wpAny_holding (en_hint hT ?_))))
  refine wpAny_ite_split (fun _ => ?_) (fun c => absurd c (by simp))
  refine wpAny_bind (wpAny_rule (wpAny_bind ?_))
  show wpAny _ _ (updateSeq S (·.push .none) >>= fun _ => updateSeq S (·.pop)) _ _ _
  refine wpAny_bind (wpAny_updateSeq hS rfl ?_)
  have hS₂ := Heap.get?_update_self (Obj.mapSeq (·.push Value.none)) hS rfl
  refine wpAny_updateSeq (hz := by seq_fits) hS₂ rfl ?_
  have hS₃ := Heap.get?_update_self (Obj.mapSeq (·.pop)) hS₂ rfl
  exact wpAny_pure ⟨plainId_quiet PySem.F.plain_extend_loop _, key _ _ _ (fun b o n q => (Heap.get?_update_other _ _ (Ne.symm n)).trans ((Heap.get?_update_other _ _ (Ne.symm n)).trans q)) hS₃⟩
theorem en_init {R : Result → Shared → Prop} (hh : A.handled = none) {old : Value} (he : IsEnum s.heap e it 0 old) (hit : s.heap.IsListIter it l 0) (hL : s.heap.IsList l items) (hne : e ≠ it) (hle : l ≠ e) (hli : l ≠ it) (hlS : l ≠ S) (heS : e < S) (hiS : it < S)
    (hS : s.heap.get? S = some { cls := .type "list", data := .seq #[] })
    (hR : ∀ h' tk acc c as, (∀ b o, b ≠ S → b ≠ e → b ≠ it → s.heap.get? b = some o → h'.get? b = some o) → h'.get? S = some { cls := .type "list", dict := none, data := .seq acc c, slots := #[] } → as.length = items.size → EnG items S h' as →
      acc.toList = as.map Value.ref → R (.ok (.ret .none)) { s with heap := h', toks := tk }) (hn : items.size ≤ sizeLine) :
    wpAny (model prog w) A.in1 (Builtin.«list.__init__» ⟨[.ref S, .ref e], []⟩)
      (fun fin s' => match fin with | .done f => R (.ok f) s' | .again c' => c'.quiet = true ∧ codeAny (model prog w) A c' R s') (fun e s' => R (.error e) s') s := by
  show wpAny _ _ (do let gone ← Builtin.List.listItems (.ref S); Builtin.List.listUpdate (.ref S) (fun _ => #[]); letGo gone.toList.reverse; Builtin.List.listExtendWith (.ref S) (.ref e) .none) _ _ s
  refine wpAny_bind ?_
  unfold Builtin.List.listItems
  refine wpAny_bind (wpAny_seqItems hS rfl (wpAny_pure ?_))
  show wpAny _ _ (updateSeq S (fun _ => #[]) >>= fun _ => letGo (#[] : Array Value).toList.reverse >>= fun _ => Builtin.List.listExtendWith (.ref S) (.ref e) .none) _ _ s
  refine wpAny_bind (wpAny_updateSeq hS rfl ?_)
  have hS₂ := Heap.get?_update_self (Obj.mapSeq (fun _ => (#[] : Array Value))) hS rfl
  have oth : ∀ b o, b ≠ S → s.heap.get? b = some o → (s.heap.update S (Obj.mapSeq (fun _ => (#[] : Array Value)))).get? b = some o := fun b o n q => (Heap.get?_update_other _ _ (Ne.symm n)).trans q
  refine wpAny_bind (wpAny_letGo ?_)
  have hit' : (s.heap.update S (Obj.mapSeq (fun _ => (#[] : Array Value)))).IsListIter it l 0 := by
    obtain ⟨o, ho, r⟩ := hit
    exact ⟨o, oth it o (Nat.ne_of_lt hiS) ho, r⟩
  have hL' : (s.heap.update S (Obj.mapSeq (fun _ => (#[] : Array Value)))).IsList l items := by
    obtain ⟨o, ho, r⟩ := hL
    exact ⟨o, oth l o hlS ho, r⟩
  exact en_extend (s := { s with heap := s.heap.update S (Obj.mapSeq (fun _ => (#[] : Array Value))) }) hh (oth e _ (Nat.ne_of_lt heS) he) hit' hL' hne hle hli hlS heS hiS .none _ hS₂ (fun h' tk acc c as k1 k2 k3 k4 k5 => hR h' tk acc c as (fun b o n1 n2 n3 q => k1 b o n1 n2 n3 (oth b o n1 q)) k2 k3 k4 k5) hn
/-- list(e), e an enumerate that nothing was taken from -/
theorem en_call {Q : Value → Shared → Prop} (hh : A.handled = none) {old : Value} (he : IsEnum s.heap e it 0 old) (hit : s.heap.IsListIter it l 0) (hL : s.heap.IsList l items) (hne : e ≠ it) (hle : l ≠ e) (hli : l ≠ it) (hn : items.size ≤ sizeLine)
    (hQ : ∀ h' tk acc c as, (∀ b o, b ≠ e → b ≠ it → s.heap.get? b = some o → h'.get? b = some o) → h'.get? s.heap.objs.size = some { cls := .type "list", dict := none, data := .seq acc c, slots := #[] } → as.length = items.size → EnG items s.heap.objs.size h' as →
      acc.toList = as.map Value.ref → Q (.ref s.heap.objs.size) { s with heap := h', toks := tk }) :
    wpAny (model prog w) A (call (.type "list") [.ref e]) Q E s := by
  refine callType_codes (Q₁ := fun obj s₁ => obj = .ref s.heap.objs.size ∧ s₁ = { s with heap := s.heap.push { cls := .type "list", data := .seq #[] } }) PySem.F.called_list (PySem.F.typeCall_list_1 _) PySem.F.entry_list_init
    (code_list_new _ ⟨rfl, rfl⟩) fun obj s₁ h₁ => ?_
  obtain ⟨rfl, rfl⟩ := h₁
  have hS : (s.heap.push { cls := .type "list", data := .seq #[] }).get? s.heap.objs.size = some { cls := .type "list", data := .seq #[] } := Heap.get?_push_size _ rfl
  have l1 : e < s.heap.objs.size := Heap.lt_size he
  have l2 : it < s.heap.objs.size := by
    obtain ⟨o, ho, _⟩ := hit
    exact Heap.lt_size ho
  have l3 : l < s.heap.objs.size := by
    obtain ⟨o, ho, _⟩ := hL
    exact Heap.lt_size ho
  have hit' : (s.heap.push { cls := .type "list", data := .seq #[] }).IsListIter it l 0 := by
    obtain ⟨o, ho, r⟩ := hit
    exact ⟨o, Heap.get?_push_of_some _ ho, r⟩
  have hL' : (s.heap.push { cls := .type "list", data := .seq #[] }).IsList l items := by
    obtain ⟨o, ho, r⟩ := hL
    exact ⟨o, Heap.get?_push_of_some _ ho, r⟩
  refine ⟨⟨_, hS, rfl⟩, PySem.F.args_list_init_2 _ _, ?_⟩
  exact en_init (A := A.in1) (s := { s with heap := s.heap.push { cls := .type "list", data := .seq #[] } }) hh (Heap.get?_push_of_some _ he) hit' hL' hne hle hli (Nat.ne_of_lt l3) l1 l2 hS (fun h' tk acc c as k1 k2 k3 k4 k5 => ⟨rfl, hQ h' tk acc c as (fun b o n2 n3 q => k1 b o (Nat.ne_of_lt (Heap.lt_size q)) n2 n3 (Heap.get?_push_of_some _ q)) k2 k3 k4 k5⟩) hn
end

/-! ### list(enumerate(xs)) as an expression -/
/-- new pairs at ts: the place and the item -/
def layT (H : Hp) (ts : List Addr) (xs : List V) : Hp := fun b => if b ∈ ts then (xs[ts.idxOf b]?).map fun x => HO.tup [.int ((ts.idxOf b : Nat) : Int), x] else H b
theorem layT_off {H : Hp} {ts : List Addr} {xs : List V} {b : Addr} (h : b ∉ ts) : layT H ts xs b = H b := if_neg h
theorem layT_at {H : Hp} {ts : List Addr} {xs : List V} {j : Nat} {t : Addr} {x : V} (hn : ts.Pairwise (· < ·)) (h1 : ts[j]? = some t) (h2 : xs[j]? = some x) : layT H ts xs t = some (.tup [.int ((j : Nat) : Int), x]) := by
  have hm : t ∈ ts := List.mem_of_getElem? h1
  obtain ⟨hj, ht⟩ := List.getElem?_eq_some_iff.mp h1
  have hi : ts.idxOf t < ts.length := List.idxOf_lt_length_iff.mpr hm
  have e : ts[ts.idxOf t] = t := List.getElem_idxOf hi
  have ej : ts.idxOf t = j := by
    rcases Nat.lt_trichotomy (ts.idxOf t) j with c | c | c
    · have z := List.pairwise_iff_getElem.mp hn _ _ hi hj c
      rw [e, ht] at z
      exact absurd z (Nat.lt_irrefl _)
    · exact c
    · have z := List.pairwise_iff_getElem.mp hn _ _ hj hi c
      rw [e, ht] at z
      exact absurd z (Nat.lt_irrefl _)
  unfold layT
  rw [if_pos hm, ej, h2]
  rfl
def tListEnum (K : PySem.W.Frag) (te : TE) : TE := fun σ H Q => te σ H fun v H1 => ∃ (a : Addr) (xs : List V), v = .ref a ∧ SqL K H1 a xs ∧
  ∀ (p : Addr) (ts : List Addr) (H' : Hp), H1 p = none → (∀ t ∈ ts, H1 t = none) → p ∉ ts → Same H1 H' → H' p = some (.lst (ts.map V.ref)) → ts.length = xs.length →
    (∀ (j : Nat) (t : Addr) (x : V), ts[j]? = some t → xs[j]? = some x → H' t = some (.tup [.int ((j : Nat) : Int), x])) → Q (.ref p) H'
section
variable {X : Cx}
theorem vals_ref : ∀ as : List Addr, Vals (as.map V.ref) (as.map Value.ref)
  | [] => .nil
  | _ :: as => .cons rfl (vals_ref as)
theorem pairs_laid {pins : List (Addr × Obj)} {σ : L2.St} {H : Hp} {s : Shared} {h' : Heap} {tk c S : Nat} {xs : List V} {its : List Value} {acc : Array Value} {ts : List Addr} (I : Inv X pins σ H s) (hz : xs.length ≤ sizeLine) (rv : Vals xs its) (hSs : s.heap.objs.size ≤ S)
    (hk : ∀ b o, s.heap.get? b = some o → h'.get? b = some o) (hS : h'.get? S = some { cls := .type "list", dict := none, data := .seq acc c, slots := #[] }) (hl : ts.length = its.length) (hG : EnG its.toArray S h' ts) (hacc : acc.toList = ts.map Value.ref) :
    ∃ H' : Hp, Same H H' ∧ H S = none ∧ (∀ t ∈ ts, H t = none) ∧ S ∉ ts ∧ H' S = some (.lst (ts.map V.ref)) ∧ (∀ (j : Nat) (t : Addr) (x : V), ts[j]? = some t → xs[j]? = some x → H' t = some (.tup [.int ((j : Nat) : Int), x])) ∧ Inv X pins σ H' { s with heap := h', toks := tk } := by
  have lk := rv.length
  have hSn : S ∉ ts := fun z => Nat.lt_irrefl _ (hG.above _ z)
  have new : ∀ t ∈ ts, H t = none := fun t ht => I.hok.fresh (Nat.le_of_lt (Nat.lt_of_le_of_lt hSs (hG.above t ht)))
  have newS : H S = none := I.hok.fresh hSs
  have off : ∀ b, b ∉ ts → b ≠ S → upd (layT H ts xs) S (.lst (ts.map V.ref)) b = H b := fun b h1 h2 => by rw [upd_ne h2, layT_off h1]
  have low : ∀ b o, s.heap.get? b = some o → b ∉ ts ∧ b ≠ S := fun b o e => ⟨fun z => absurd (Heap.lt_size e) (Nat.not_lt.mpr (Nat.le_trans hSs (Nat.le_of_lt (hG.above b z)))), fun z => absurd (Heap.lt_size e) (Nat.not_lt.mpr (by rw [z]; exact hSs))⟩
  have kp : ∀ b u, H b = some u → upd (layT H ts xs) S (.lst (ts.map V.ref)) b = some u := fun b u e => by
    rw [off b (fun z => by rw [new b z] at e; cases e) (fun z => by rw [z, newS] at e; cases e)]
    exact e
  have atT : ∀ (j : Nat) (t : Addr) (x : V), ts[j]? = some t → xs[j]? = some x → upd (layT H ts xs) S (.lst (ts.map V.ref)) t = some (.tup [.int ((j : Nat) : Int), x]) := fun j t x h1 h2 => by
    rw [upd_ne (fun z => hSn (by rw [← z]; exact List.mem_of_getElem? h1))]
    exact layT_at hG.rise h1 h2
  refine ⟨upd (layT H ts xs) S (.lst (ts.map V.ref)), kp, newS, new, hSn, upd_same, atT, ?_⟩
  refine I.call' (ch := []) rfl ⟨fun b o q _ _ _ => hk b o q, fun b o q _ _ _ => ⟨o.slots, hk b o q⟩, fun b o q n _ => ?_, fun b o q _ => ⟨o, hk b o q⟩, fun b _ q => kp b _ q, fun b _ u q => kp b _ q, fun b ps q => ⟨#[], by rw [kp b _ q]; simp⟩⟩ (fun b u q => ?_) I.bare fun b z => by simp at z
  · obtain ⟨z1, z2⟩ := low b o q
    rw [off b z1 z2]
    exact n
  · by_cases hb : b ∈ ts
    · obtain ⟨j, hj⟩ := List.mem_iff_getElem?.mp hb
      obtain ⟨u0, t0, f1, f2⟩ := hG.pairs j b hj
      have hjl : j < xs.length := by
        have := (List.getElem?_eq_some_iff.mp hj).1
        omega
      have hx : xs[j]? = some xs[j] := List.getElem?_eq_getElem hjl
      rw [atT j b _ hj hx] at q
      cases q
      obtain ⟨y, hy, ry⟩ := rv.get hx
      have ey : y = u0 := by
        have z : its.toArray[j]? = its[j]? := by simp
        rw [z, hy] at f1
        exact Option.some.inj f1
      subst ey
      exact ⟨by show 2 ≤ sizeLine; decide, [.int ((j : Nat) : Int) t0, y], .cons ⟨_, rfl⟩ (.cons ry .nil), ⟨_, f2, rfl, _, rfl⟩⟩
    · by_cases hb2 : b = S
      · rw [hb2] at q ⊢
        rw [upd_same] at q
        cases q
        refine ⟨by rw [List.length_map]; omega, acc.toList, c, by rw [hacc]; exact vals_ref ts, ?_⟩
        rw [Array.toArray_toList]
        exact hS
      · rw [off b hb hb2] at q
        exact (I.hok b u q).stay (fun d v _ y => hk d v y) (fun d y => kp d _ y) fun d _ y => kp d _ y
theorem pe_listEnum {e : Expr} {te : TE} {p p2 pos pos2 : Pos} (hc : X.calm = true) (hg : Gl X "list") (hm : X.mg "list" = none) (hg2 : Gl X "enumerate") (hm2 : X.mg "enumerate" = none) (he : PE X e te)
    (hs : starEach [e] X.env = (false, eval e X.env) :: starEach [] X.env := by rfl)
    (hs2 : starEach [.Call (.Name "enumerate" p2) [e] [] pos2] X.env = (false, eval (.Call (.Name "enumerate" p2) [e] [] pos2) X.env) :: starEach [] X.env := by rfl) :
    PE X (.Call (.Name "list" p) [.Call (.Name "enumerate" p2) [e] [] pos2] [] pos) (tListEnum X.K te) := by
  refine ⟨fun pins s σ H Q I h => ?_⟩
  refine Call_ (ld_blt I hg hm boot_list (PyProof.Rows.callWith_type1 (args_cons (Call_ (ld_blt I hg2 hm2 boot_enumerate (PyProof.Rows.callWith_type1 (args_cons (thn (he.run pins s σ H _ I h) fun u s1 ⟨v, H1, I1, r1, q1⟩ => args_nil ?_) hs) hs rfl))) hs2) hs2 rfl))
  obtain ⟨a, xs, ev, hq, q⟩ := q1
  subst ev
  obtain rfl : u = Value.ref a := r1
  obtain ⟨its, rv, p', hz⟩ := I1.list hq
  refine call_enumerate_list p'.isList fun h' he0 hit hsz hk => args_nil ?_
  have hl := p'.isList
  obtain ⟨ol, hol, hrest⟩ := id hl
  have la : a < s1.heap.objs.size := Heap.lt_size hol
  have hL' : h'.IsList a its.toArray := ⟨ol, hk a ol hol, hrest⟩
  have hn : its.toArray.size ≤ sizeLine := by rw [List.size_toArray, ← rv.length]; exact hz
  refine en_call (s := { s1 with heap := h' }) (I1.ok.hd hc) he0 hit hL' (Nat.succ_ne_self _) (Nat.ne_of_lt (Nat.lt_succ_of_lt la)) (Nat.ne_of_lt la) hn fun h2 tk acc c ts k1 k2 k3 k4 k5 => ?_
  have kk : ∀ b o, s1.heap.get? b = some o → h2.get? b = some o := fun b o e => by
    have := Heap.lt_size e
    exact k1 b o (Nat.ne_of_lt (Nat.lt_succ_of_lt this)) (Nat.ne_of_lt this) (hk b o e)
  obtain ⟨H', z1, z2, z3, z4, z5, z6, J⟩ := pairs_laid (tk := tk) I1 hz rv (by show s1.heap.objs.size ≤ h'.objs.size; omega) kk k2 (by rw [k3, List.size_toArray]) k4 k5
  exact ⟨.ref _, H', J, rfl, q _ ts H' z2 z3 z4 z1 z5 (by rw [k3, List.size_toArray]; exact rv.length.symm) z6⟩
end

end NG
namespace NG
open PySem PySem.Spec PyProof.Rows L2
/-! ### short readings -/
/-- small side conditions -/
local macro_rules | `(tactic| walk_at "sd") => `(tactic| (first
  | omega
  | assumption
  | rfl
  | decide
  | exact .inr ⟨by decide, by decide⟩
  | exact .inl ⟨by decide, by decide⟩
  | exact ⟨by first | assumption | decide | omega, by first | assumption | decide | omega⟩
  | exact ⟨by decide, by decide, by decide⟩))
/-- reads on while what is asked is plain: a slot, two ints, an item at a written place, a test's answer -/
local macro_rules | `(tactic| walk_at "rd") => `(tactic| repeat (first
  | refine ⟨_, rfl, ?_⟩
  | refine ⟨_, _, rfl, rfl, ?_⟩
  | refine ⟨_, _, _, _, rfl, rfl, (by first | assumption | exact upd_same | exact .inl (.inl upd_same)), (by rfl), ?_⟩
  | refine ⟨_, _, rfl, .inl (by first | assumption | exact .inl (.inl upd_same)), ?_⟩
  | refine ⟨_, _, rfl, .inr (by first | assumption | exact .inl (.inl upd_same)), ?_⟩
  | refine ⟨_, _, _, _, _, rfl, (by first | assumption | exact upd_same), (by assumption), (by assumption), (by rfl), ?_⟩
  | refine ⟨_, _, _, _, rfl, (by first | assumption | exact upd_same), (by assumption), (by assumption), lt1000 (by rfl), ?_⟩
  | refine .inl ⟨_, rfl, ?_⟩
  | refine And.intro (by walk_at "sd") ?_))
/-- isinstance of a value whose type is known, by a built-in class -/
local macro_rules | `(tactic| walk_at "isi") => `(tactic| first
  | refine ⟨_, _, _, _, true, rfl, .ty _, (by assumption), kit_ty (by decide +kernel), ?_⟩
  | refine ⟨_, _, _, _, false, rfl, .ty _, (by assumption), kit_ty (by decide +kernel), ?_⟩)
/-- as rd; and where a test's answer is known -/
local macro_rules | `(tactic| walk_at "go") => `(tactic| repeat (first
  | refine ⟨_, rfl, ?_⟩
  | refine ⟨_, _, rfl, rfl, ?_⟩
  | refine ⟨_, _, _, _, rfl, rfl, (by first | assumption | exact upd_same | exact .inl (.inl upd_same)), (by rfl), ?_⟩
  | refine ⟨_, _, rfl, .inl (by first | assumption | exact .inl (.inl upd_same)), ?_⟩
  | refine ⟨_, _, rfl, .inr (by first | assumption | exact .inl (.inl upd_same)), ?_⟩
  | refine ⟨_, _, _, _, _, rfl, (by first | assumption | exact upd_same), (by assumption), (by assumption), (by rfl), ?_⟩
  | refine ⟨_, _, _, _, rfl, (by first | assumption | exact upd_same), (by assumption), (by assumption), lt1000 (by rfl), ?_⟩
  | refine .inl ⟨_, rfl, ?_⟩
  | walk_at "isi"
  | refine iteT ?_
  | refine iteF ?_
  | refine And.intro (by walk_at "sd") ?_))

/-! ### what groups earn: stock -/
def rGetL (K : PySem.W.Frag) : V → V → Hp → VK → Prop := fun x y H Q => ∃ (p : Addr) (xs : List V) (j : Nat) (v : V), x = .ref p ∧ y = .int ((j : Nat) : Int) ∧ SqL K H p xs ∧ xs[j]? = some v ∧ Q v H
theorem get_list {X : Cx} : PGet X (rGetL X.K) := by
  intro pins s σ H o i ov iv Q I ro ri h
  obtain ⟨p, xs, j, v, rfl, rfl, hq, hv, q⟩ := h
  cases ro
  obtain ⟨t, rfl⟩ := ri
  obtain ⟨its, r, pl, hz⟩ := I.list hq
  obtain ⟨u, hu, ru⟩ := r.get hv
  have hj : j < xs.length := (List.getElem?_eq_some_iff.mp hv).1
  have hs := sizeLine_eq
  exact wpAny_getItem_list pl.isList (Int.natCast_nonneg j) (by omega) (by rw [Int.toNat_natCast]; simpa using hu) ⟨v, H, I, ru, q⟩
theorem walk_zipT {K : PySem.W.Frag} {a b : Addr} {xs ys : List V} {n : Nat} (hn : n = min xs.length ys.length) : Walk (RZ.ItzT K a b) n (fun H => SqT K H a xs ∧ SqT K H b ys) (YPair (fun i => xs[i]?) (fun i => ys[i]?)) := by
  subst hn
  refine ⟨fun i _ hi q => ?_, fun _ q => ⟨xs, ys, q.1, q.2, by omega⟩, fun i H v H' _ q y => ?_⟩
  · exact ⟨xs, ys, xs[i]'(by omega), ys[i]'(by omega), q.1, q.2, by simp [show i < xs.length by omega], by simp [show i < ys.length by omega]⟩
  · obtain ⟨T, x, z, h1, h2, h3, h4, h5⟩ := y
    exact ⟨T, x, z, h1, h2, h3, h4 xs q.1, h5 ys q.2⟩
theorem amt_get {K : PySem.W.Frag} {H : Hp} {xs : List V} {l : List (Nat × Int)} {i : Nat} {x : V} (h : DpAll K H xs (amtD l)) (hx : xs[i]? = some x) : ∃ (p : Nat × Int) (b : Addr), l[i]? = some p ∧ x = .ref b ∧ SqT K H b [.int ((p.1 : Nat) : Int), .int p.2] := by
  obtain ⟨p, h1, h2⟩ := map_get h hx
  cases h2 with
  | @tup b ys _ hs hd =>
    cases hd with
    | cons a1 a2 =>
      cases a1
      cases a2 with
      | cons b1 b2 =>
        cases b1
        cases b2
        exact ⟨p, b, h1, rfl, hs⟩
theorem intV_get {st : List Int} {j : Nat} (h : j < st.length) : (st.map V.int)[j]? = some (.int (st.getD j 0)) := by
  rw [List.getElem?_map, List.getElem?_eq_getElem h, List.getD_eq_getElem?_getD, List.getElem?_eq_getElem h]
  rfl
theorem ixN_nat {n j : Nat} (h : j < n) : ixN n (j : Int) = some j := by
  unfold ixN
  rw [if_pos (Int.natCast_nonneg j), if_pos (by omega), Int.toNat_natCast]
theorem set_map {α β : Type} {f : α → β} (l : List α) (i : Nat) (x : α) : (l.map f).set i (f x) = (l.set i x).map f := by
  rw [List.map_set]
theorem putL_take {st : List Int} {l : List (Nat × Int)} {i : Nat} {p : Nat × Int} (h : l[i]? = some p) : putL st (l.take (i + 1)) = (putL st (l.take i)).set p.1 ((putL st (l.take i)).getD p.1 0 + p.2) := by
  induction l generalizing st i with
  | nil => cases h
  | cons q l ih =>
    cases i with
    | zero =>
      obtain rfl := Option.some.inj h
      simp [putL]
    | succ i =>
      rw [List.take_succ_cons, List.take_succ_cons, putL, putL]
      exact ih h
theorem takeL_take {st : List Int} {l : List (Nat × Int)} {i : Nat} {p : Nat × Int} (h : l[i]? = some p) : takeL st (l.take (i + 1)) = (takeL st (l.take i)).set p.1 ((takeL st (l.take i)).getD p.1 0 - p.2) := by
  induction l generalizing st i with
  | nil => cases h
  | cons q l ih =>
    cases i with
    | zero =>
      obtain rfl := Option.some.inj h
      simp [takeL]
    | succ i =>
      rw [List.take_succ_cons, List.take_succ_cons, takeL, takeL]
      exact ih h
theorem own_up {H : Hp} {s : Addr} {o : HO} : Same (cutP H s) (upd H s o) := fun b u e => by
  by_cases c : b = s
  · rw [c] at e
    unfold cutP at e
    rw [if_pos rfl] at e
    cases e
  · rw [upd_ne c]
    rw [cutP_ne c] at e
    exact e
theorem upd_id {H : Hp} {s : Addr} {o : HO} (h : H s = some o) : upd H s o = H := by
  funext b
  by_cases c : b = s
  · rw [c, upd_same, h]
  · rw [upd_ne c]
def spPut (K : PySem.W.Frag) (g : List Int → List (Nat × Int) → List Int) : Sp := fun vs H Q _ => ∃ (s a : Addr) (st : List Int) (l : List (Nat × Int)), vs = [.ref s, .ref a] ∧ H s = some (.lst (st.map V.int)) ∧ Dp K H (.ref a) (.tuple (amtD l)) ∧ (∀ p ∈ l, p.1 < st.length) ∧ l.length ≤ 1000 ∧
  Q .non (upd H s (.lst ((g st l).map V.int)))
section
variable {P : Program} {w : World} {K : PySem.W.Frag} {mg : Str → Option Value} {base : Heap} {f : Addr} {fd : FuncData}
theorem ok__put (F : FnP K "_put" s__put f fd) : FnOk P w K mg base CX0 1 f fd ["stock", "amounts"] (spPut K putL) := by
  refine F.ok sc__put (fun vs H Q E h => ?_) (fun cdv A outer s H vs Q E hr h => ⟨_, PSs.nox (pss_one (ps_for PassesOwn.never rfl (pi_tup (pv 1)) (pg_tup (by rfl) (pgs_cons (pg_name (i := 2) sc__put.nd rfl (.inl rfl)) (pgs_cons (pg_name (i := 3) sc__put.nd rfl (.inl rfl)) pgs_nil))) (pss_one (ps_augS (pv 0) (pv 2) get_list (pv 3) ip_add set_list)))), ?_⟩)
  · obtain ⟨s, a, st, l, rfl, _⟩ := h
    rfl
  · obtain ⟨s, a, st, l, rfl, hs, ha, hix, hl, q⟩ := h
    have ha2 := dp_off hs (noL_amt l) ha
    cases ha2 with
    | @tup _ xs _ hsq hd =>
    have lx := dpa_len hd
    rw [amtD_len] at lx
    refine ⟨_, rfl, a, rfl, ⟨_, same_seqT cutP_sub hsq⟩, ?_⟩
    refine for_tup (K := K) (a := a) (xs := xs) (fun i σ H' => (∃ z2 z3, σ = [some (.ref s), some (.ref a), z2, z3]) ∧ H' = upd H s (.lst ((putL st (l.take i)).map V.int))) ⟨⟨_, _, rfl⟩, by rw [List.take_zero, putL, upd_id hs]⟩ (fun i σ H' _ h => ?_) ?_ ?_
    · rw [h.2]
      exact same_seqT own_up hsq
    · rintro i x σ H' hx ⟨⟨z2, z3, rfl⟩, rfl⟩
      obtain ⟨p, b, h1, rfl, h2⟩ := amt_get hd hx
      have hp := hix p (List.mem_of_getElem? h1)
      have hp2 : p.1 < (putL st (l.take i)).length := by rw [putL_len]; exact hp
      refine ⟨b, _, rfl, same_seqT own_up h2, rfl, _, _, rfl, _, _, rfl, rfl, ?_⟩
      refine ⟨_, rfl, _, rfl, s, _, p.1, _, rfl, rfl, .inl (.inl upd_same), intV_get hp2, _, rfl, _, _, rfl, rfl, s, _, _, p.1, rfl, rfl, upd_same, ixN_nat (by rw [List.length_map]; exact hp2), ?_⟩
      exact ⟨⟨_, _, rfl⟩, by rw [upd_upd, set_map, putL_take h1]⟩
    · rintro σ H' ⟨⟨z2, z3, rfl⟩, rfl⟩
      rw [lx, List.take_length]
      exact q
theorem ok__take (F : FnP K "_take" s__take f fd) : FnOk P w K mg base CX0 1 f fd ["stock", "amounts"] (spPut K takeL) := by
  refine F.ok sc__take (fun vs H Q E h => ?_) (fun cdv A outer s H vs Q E hr h => ⟨_, PSs.nox (pss_one (ps_for PassesOwn.never rfl (pi_tup (pv 1)) (pg_tup (by rfl) (pgs_cons (pg_name (i := 2) sc__take.nd rfl (.inl rfl)) (pgs_cons (pg_name (i := 3) sc__take.nd rfl (.inl rfl)) pgs_nil))) (pss_one (ps_augS (pv 0) (pv 2) get_list (pv 3) ip_sub set_list)))), ?_⟩)
  · obtain ⟨s, a, st, l, rfl, _⟩ := h
    rfl
  · obtain ⟨s, a, st, l, rfl, hs, ha, hix, hl, q⟩ := h
    have ha2 := dp_off hs (noL_amt l) ha
    cases ha2 with
    | @tup _ xs _ hsq hd =>
    have lx := dpa_len hd
    rw [amtD_len] at lx
    refine ⟨_, rfl, a, rfl, ⟨_, same_seqT cutP_sub hsq⟩, ?_⟩
    refine for_tup (K := K) (a := a) (xs := xs) (fun i σ H' => (∃ z2 z3, σ = [some (.ref s), some (.ref a), z2, z3]) ∧ H' = upd H s (.lst ((takeL st (l.take i)).map V.int))) ⟨⟨_, _, rfl⟩, by rw [List.take_zero, takeL, upd_id hs]⟩ (fun i σ H' _ h => ?_) ?_ ?_
    · rw [h.2]
      exact same_seqT own_up hsq
    · rintro i x σ H' hx ⟨⟨z2, z3, rfl⟩, rfl⟩
      obtain ⟨p, b, h1, rfl, h2⟩ := amt_get hd hx
      have hp := hix p (List.mem_of_getElem? h1)
      have hp2 : p.1 < (takeL st (l.take i)).length := by rw [takeL_len]; exact hp
      refine ⟨b, _, rfl, same_seqT own_up h2, rfl, _, _, rfl, _, _, rfl, rfl, ?_⟩
      refine ⟨_, rfl, _, rfl, s, _, p.1, _, rfl, rfl, .inl (.inl upd_same), intV_get hp2, _, rfl, _, _, rfl, rfl, s, _, _, p.1, rfl, rfl, upd_same, ixN_nat (by rw [List.length_map]; exact hp2), ?_⟩
      exact ⟨⟨_, _, rfl⟩, by rw [upd_upd, set_map, takeL_take h1]⟩
    · rintro σ H' ⟨⟨z2, z3, rfl⟩, rfl⟩
      rw [lx, List.take_length]
      exact q
end

/-! ### what groups earn: tests -/
def HAt (K : PySem.W.Frag) (C : Addr) (H : Hp) (a : Addr) (h : Hous) : Prop := ∃ (dx : Addr) (u1 u2 u3 u4 u5 : V), H a = some (.ins C dx (houFs u1 u2 u3 u4 u5)) ∧
  Dp K H u1 (.tuple (strD h.goods)) ∧ Dp K H u2 (.tuple (membT h.members)) ∧ Dp K H u3 (.tuple (amtD h.talks)) ∧ Dp K H u4 (.tuple (h.recipes.map reciT)) ∧ Dp K H u5 (.tuple (h.orders.map ordT))
theorem HAt.same {K : PySem.W.Frag} {C a : Addr} {H H' : Hp} {h : Hous} (x : HAt K C H a h) (e : Same H H') : HAt K C H' a h := by
  obtain ⟨dx, u1, u2, u3, u4, u5, ea, d1, d2, d3, d4, d5⟩ := x
  exact ⟨dx, u1, u2, u3, u4, u5, e _ _ ea, dp_same e d1, dp_same e d2, dp_same e d3, dp_same e d4, dp_same e d5⟩
def spHasAll (K : PySem.W.Frag) : Sp := fun vs H Q _ => ∃ (s a : Addr) (st : List Int) (xs : List V) (l : List (Nat × Int)), vs = [.ref s, .ref a] ∧ SqL K H s (st.map V.int) ∧ (SqL K H a xs ∨ SqT K H a xs) ∧ DpAll K H xs (amtD l) ∧ (∀ p ∈ l, p.1 < st.length) ∧ l.length ≤ 1000 ∧
  ∀ H', Same H H' → Q (.bl (hasAll st l)) H'
theorem in_nat (k : Nat) (g : List Nat) : inV (.int ((k : Nat) : Int)) (natV g) = decide (k ∈ g) := by
  unfold inV natV
  rw [List.any_map, Bool.eq_iff_iff, List.any_eq_true, decide_eq_true_iff]
  constructor
  · rintro ⟨x, hx, e⟩
    have e2 : ((x : Nat) : Int) = ((k : Nat) : Int) := by simpa [eqV] using e
    rw [← Int.ofNat.inj e2]
    exact hx
  · intro h
    exact ⟨k, h, by simp [eqV]⟩
theorem flat_nat (g : List Nat) : (natV g).all flatV = true := by
  unfold natV
  rw [List.all_map]
  exact List.all_eq_true.mpr fun _ _ => rfl
theorem natD_eq {K : PySem.W.Frag} {H : Hp} : ∀ {l : List Nat} {vs : List V}, DpAll K H vs (natD l) → vs = natV l
  | [], _, .nil => rfl
  | _ :: _, _, .cons h t => by
    cases h
    rw [natD_eq t]
    rfl
theorem reci_parts {K : PySem.W.Frag} {H : Hp} {v : V} {r : Reci} (h : Dp K H v (reciT r)) : ∃ (b n t g : Addr), v = .ref b ∧ SqT K H b [.str r.name, .int r.cost, .int r.times, .ref n, .ref t, .ref g] ∧ SqT K H n (natV r.needs) ∧ Dp K H (.ref t) (.tuple (amtD r.takes)) ∧ Dp K H (.ref g) (.tuple (amtD r.gives)) := by
  cases h with
  | @tup b ys _ hs hd =>
    cases hd with
    | cons a1 hd =>
    cases a1
    cases hd with
    | cons a2 hd =>
    cases a2
    cases hd with
    | cons a3 hd =>
    cases a3
    cases hd with
    | cons a4 hd =>
    cases hd with
    | cons a5 hd =>
    cases hd with
    | cons a6 hd =>
    cases hd
    cases a4 with
    | @tup n xn _ hn dn =>
    have := natD_eq dn
    subst this
    cases a5 with
    | @tup t xt _ ht dt =>
    cases a6 with
    | @tup g xg _ hg dg =>
    exact ⟨b, n, t, g, rfl, hs, hn, .tup ht dt, .tup hg dg⟩
def spNeeded (K : PySem.W.Frag) : Sp := fun vs H Q _ => ∃ (g a : Addr) (gr : List Nat) (r : Reci), vs = [.ref g, .ref a] ∧ SqT K H g (natV gr) ∧ Dp K H (.ref a) (reciT r) ∧ r.needs.length ≤ 1000 ∧
  ∀ H', Same H H' → Q (.bl (hasNeeded gr r)) H'
section
variable {P : Program} {w : World} {K : PySem.W.Frag} {mg : Str → Option Value} {base : Heap} {f : Addr} {fd : FuncData}
theorem ok__has_all (M : MB mg) (F : FnP K "_has_all" s__has_all f fd) : FnOk P w K mg base CX0 1 f fd ["stock", "amounts"] (spHasAll K) := by
  refine F.ok sc__has_all (fun vs H Q E h => ?_) (fun cdv A outer s H vs Q E hr h => ⟨_, PSs.nox (pss_one (ps_ret (pe_callB (cr_all rfl) (by rfl) M.all (by decide +kernel) (pa_cons (pe_lc (own := [("good", 2), ("number", 3)]) (g := (gTup K 2 (gCons (gName 2) (gCons (gName 3) gNil)))) (by rfl) sc__has_all.nd (pi_either (pv 1)) (blkOk_by (own := [("good", 2), ("number", 3)]) (N := N__has_all) (sc := defScope s__has_all) (by decide +kernel)) (fun _ _ _ _ _ => (pg_tup (by rfl) (pgs_cons (pg_name (i := 2) sc__has_all.nd rfl (.inl rfl)) (pgs_cons (pg_name (i := 3) sc__has_all.nd rfl (.inl rfl)) pgs_nil)))) (fun _ _ _ _ _ => pts_nil) (fun _ _ _ _ _ => (pe_cmpR op_ge (pe_ix (show IxR _ (rIxL K) from ix_list) (pv 0) (pv 2) (fun _ _ => rfl)) (pv 3) (nomark _)))) pa_nil)))), ?_⟩)
  · obtain ⟨s, a, st, xs, l, rfl, _⟩ := h
    rfl
  · obtain ⟨s, a, st, xs, l, rfl, hs, ha, hd, hix, hl, q⟩ := h
    have hsz := sizeLine_eq
    have lx := dpa_len hd
    rw [amtD_len] at lx
    refine ⟨_, rfl, a, rfl, ?_⟩
    rcases ha with ha | ha
    · refine .inl ⟨⟨_, ha⟩, fun D hD => ?_⟩
      refine lc_it (walk_list (K := K) (a := a) (xs := xs)) (fun i H' => H' = upd H D (.lst ((l.take i).map fun p => V.bl (decide (p.2 ≤ st.getD p.1 0))))) rfl (fun i H' _ e => ?_) (fun i x H' H2 hi e hy => ?_) (fun H' e => ?_)
      · rw [e]
        exact sqL_same (same_upd hD) ha
      · subst e
        obtain ⟨rfl, hx⟩ := hy
        obtain ⟨p, b, h1, rfl, h2⟩ := amt_get hd hx
        have hp := hix p (List.mem_of_getElem? h1)
        refine ⟨b, _, rfl, same_seqT (same_upd hD) h2, rfl, _, _, rfl, _, _, rfl, rfl, rfl, yes_of ?_⟩
        refine ⟨_, rfl, _, rfl, s, _, _, _, rfl, rfl, sqL_same (same_upd hD) hs, atI_nat (intV_get hp), _, rfl, _, _, rfl, rfl, ?_⟩
        refine ⟨_, upd_same, by rw [List.length_map, List.length_take]; omega, ?_⟩
        rw [upd_upd]
        obtain ⟨hk, he⟩ := List.getElem?_eq_some_iff.mp h1
        rw [List.take_succ_eq_append_getElem hk, he, List.map_append]
        rfl
      · rw [lx, List.take_length] at e
        subst e
        refine ⟨D, l.map fun p => decide (p.2 ≤ st.getD p.1 0), rfl, .inl (.inl (by rw [upd_same, List.map_map]; rfl)), ?_⟩
        have z : (l.map fun p => decide (p.2 ≤ st.getD p.1 0)).all id = hasAll st l := by
          rw [List.all_map]
          rfl
        rw [z]
        exact q _ (same_upd hD)
    · refine .inr ⟨⟨_, ha⟩, fun D hD => ?_⟩
      refine lc_it (walk_tup (K := K) (a := a) (xs := xs)) (fun i H' => H' = upd H D (.lst ((l.take i).map fun p => V.bl (decide (p.2 ≤ st.getD p.1 0))))) rfl (fun i H' _ e => ?_) (fun i x H' H2 hi e hy => ?_) (fun H' e => ?_)
      · rw [e]
        exact same_seqT (same_upd hD) ha
      · subst e
        obtain ⟨rfl, hx⟩ := hy
        obtain ⟨p, b, h1, rfl, h2⟩ := amt_get hd hx
        have hp := hix p (List.mem_of_getElem? h1)
        refine ⟨b, _, rfl, same_seqT (same_upd hD) h2, rfl, _, _, rfl, _, _, rfl, rfl, rfl, yes_of ?_⟩
        refine ⟨_, rfl, _, rfl, s, _, _, _, rfl, rfl, sqL_same (same_upd hD) hs, atI_nat (intV_get hp), _, rfl, _, _, rfl, rfl, ?_⟩
        refine ⟨_, upd_same, by rw [List.length_map, List.length_take]; omega, ?_⟩
        rw [upd_upd]
        obtain ⟨hk, he⟩ := List.getElem?_eq_some_iff.mp h1
        rw [List.take_succ_eq_append_getElem hk, he, List.map_append]
        rfl
      · rw [lx, List.take_length] at e
        subst e
        refine ⟨D, l.map fun p => decide (p.2 ≤ st.getD p.1 0), rfl, .inl (.inl (by rw [upd_same, List.map_map]; rfl)), ?_⟩
        have z : (l.map fun p => decide (p.2 ≤ st.getD p.1 0)).all id = hasAll st l := by
          rw [List.all_map]
          rfl
        rw [z]
        exact q _ (same_upd hD)
theorem ok__has_needed (M : MB mg) (F : FnP K "_has_needed" s__has_needed f fd) : FnOk P w K mg base CX0 1 f fd ["group", "recipe"] (spNeeded K) := by
  refine F.ok sc__has_needed (fun vs H Q E h => ?_) (fun cdv A outer s H vs Q E hr h => ⟨_, PSs.nox (pss_one (ps_ret (pe_callB (cr_all rfl) (by rfl) M.all (by decide +kernel) (pa_cons (pe_lc (own := [("member", 2)]) (g := gName 2) (by rfl) sc__has_needed.nd (pi_tup (pe_ix (show IxR _ (rIxT K) from ix_tup) (pv 1) pe_int (fun _ _ => rfl))) (blkOk_by (own := [("member", 2)]) (N := N__has_needed) (sc := defScope s__has_needed) (by decide +kernel)) (fun _ _ _ _ _ => pg_name (i := 2) sc__has_needed.nd rfl (.inl rfl)) (fun _ _ _ _ _ => pts_nil) (fun _ _ _ _ _ => (pe_cmpR (show OpR _ (compareOp .In) (rIn K false) from op_in_seq) (pv 2) (pv 0) (by rfl)))) pa_nil)))), ?_⟩)
  · obtain ⟨g, a, gr, r, rfl, _⟩ := h
    rfl
  · obtain ⟨g, a, gr, r, rfl, hg, hd, hl, q⟩ := h
    have hsz := sizeLine_eq
    obtain ⟨b, n, t, g2, e, h1, h2, _, _⟩ := reci_parts hd
    cases e
    have ln : (natV r.needs).length = r.needs.length := List.length_map _
    refine ⟨_, rfl, _, _, _, _, rfl, rfl, h1, rfl, n, rfl, ⟨_, h2⟩, fun D hD => ?_⟩
    refine lc_it (walk_tup (K := K) (a := n) (xs := natV r.needs)) (fun i H' => H' = upd H D (.lst ((r.needs.take i).map fun k => V.bl (decide (k ∈ gr))))) rfl (fun i H' _ e => ?_) (fun i x H' H2 hi e hy => ?_) (fun H' e => ?_)
    · rw [e]
      exact same_seqT (same_upd hD) h2
    · subst e
      obtain ⟨rfl, hx⟩ := hy
      obtain ⟨k, h3, rfl⟩ := natV_get hx
      refine ⟨rfl, yes_of ?_⟩
      refine ⟨_, rfl, _, rfl, g, _, rfl, .inr (same_seqT (same_upd hD) hg), rfl, flat_nat gr, ?_⟩
      refine ⟨_, upd_same, by rw [List.length_map, List.length_take]; omega, ?_⟩
      rw [upd_upd, in_nat]
      obtain ⟨hk, he⟩ := List.getElem?_eq_some_iff.mp h3
      rw [List.take_succ_eq_append_getElem hk, he, List.map_append]
      rfl
    · rw [ln, List.take_length] at e
      subst e
      refine ⟨D, r.needs.map fun k => decide (k ∈ gr), rfl, .inl (.inl (by rw [upd_same, List.map_map]; rfl)), ?_⟩
      have z : (r.needs.map fun k => decide (k ∈ gr)).all id = hasNeeded gr r := by
        rw [List.all_map]
        rfl
      rw [z]
      exact q _ (same_upd hD)
end

/-! ### what groups earn: the stock behind the runs -/
theorem memb_at {K : PySem.W.Frag} {H : Hp} {xs : List V} {ms : List Memb} {k : Nat} (h : DpAll K H xs (membT ms)) (hk : k < ms.length) : ∃ (b t : Addr) (nm : Str), xs[k]? = some (.ref b) ∧ SqT K H b [.str nm, .ref t] ∧ Dp K H (.ref t) (.tuple (amtD (ms.getD k (default, [])).2)) := by
  obtain ⟨v, h1, h2⟩ := dpa_at (k := k) (d := .tuple [.str ms[k].1, .tuple (amtD ms[k].2)]) h (by unfold membT; rw [List.getElem?_map, List.getElem?_eq_getElem hk]; rfl)
  have e : ms.getD k (default, []) = ms[k] := by rw [List.getD_eq_getElem?_getD, List.getElem?_eq_getElem hk]; rfl
  rw [e]
  cases h2 with
  | @tup b ys _ hs hd =>
    cases hd with
    | cons a1 hd =>
    cases a1
    cases hd with
    | cons a2 hd =>
    cases hd
    cases a2 with
    | @tup t xt _ ht dt =>
    exact ⟨b, t, _, h1, hs, .tup ht dt⟩
theorem flat_zero (n : Nat) : (List.replicate n [V.int 0]).flatten = (List.replicate n (0 : Int)).map V.int := by
  induction n with
  | zero => rfl
  | succ n ih =>
    rw [List.replicate_succ, List.replicate_succ, List.flatten_cons, ih]
    rfl
theorem runs_len {r : Reci} : ∀ {n : Nat} {st st' : List Int}, runsGo r n st = some st' → st'.length = st.length
  | 0, _, _, e => by cases e; rfl
  | n + 1, st, st', e => by
    rw [runsGo] at e
    split at e
    · rw [runs_len e, putL_len, takeL_len]
    · cases e
theorem foldl_take {α β : Type} {f : β → α → β} {b : β} {l : List α} {i : Nat} {x : α} (h : l[i]? = some x) : (l.take (i + 1)).foldl f b = f ((l.take i).foldl f b) x := by
  obtain ⟨hi, he⟩ := List.getElem?_eq_some_iff.mp h
  rw [List.take_succ_eq_append_getElem hi, he, List.foldl_append]
  rfl
theorem stock_len {f : Nat → List (Nat × Int)} : ∀ (g : List Nat) (a : List Int), (g.foldl (fun st m => putL st (f m)) a).length = a.length
  | [], _ => rfl
  | m :: g, a => by rw [List.foldl_cons, stock_len g, putL_len]
theorem zeros_len (h : Hous) : (zeros h).length = h.goods.length := List.length_replicate
theorem drop_at {α : Type} {l : List α} {i : Nat} {x : α} (h : l[i]? = some x) : l.drop i = x :: l.drop (i + 1) := by
  obtain ⟨hi, he⟩ := List.getElem?_eq_some_iff.mp h
  rw [List.drop_eq_getElem_cons hi, he]
def spAfter (K : PySem.W.Frag) (C : Addr) : Sp := fun vs H Q _ => ∃ (a g rn : Addr) (h : Hous) (gr : List Nat) (runs : List Int), vs = [.ref a, .ref g, .ref rn] ∧ HAt K C H a h ∧ HousOk h ∧ SqT K H g (natV gr) ∧ gr.length ≤ 1000 ∧ (∀ k ∈ gr, k < h.members.length) ∧ SqT K H rn (runs.map V.int) ∧
  (∀ r ∈ runs, -1000 ≤ r ∧ r ≤ 1000) ∧ (stockAfter h gr runs = none → ∀ H', Same H H' → Q .non H') ∧
  (∀ st, stockAfter h gr runs = some st → st.length = h.goods.length → ∀ (D : Addr) (H' : Hp), H D = none → Same H H' → H' D = some (.lst (st.map V.int)) → Q (.ref D) H')
section
variable {P : Program} {w : World} {K : PySem.W.Frag} {mg : Str → Option Value} {base : Heap} {f C : Addr} {fd : FuncData}
theorem ok__stock_after (T : HouT K mg C) (M : MB mg) (F : FnP K "_stock_after" s__stock_after f fd) (C__put : Callee P w K mg base CX0 "_put" ["stock", "amounts"] 1 (spPut K putL)) (C__take : Callee P w K mg base CX0 "_take" ["stock", "amounts"] 1 (spPut K takeL))
    (C__has_all : Callee P w K mg base CX0 "_has_all" ["stock", "amounts"] 1 (spHasAll K)) (C__has_needed : Callee P w K mg base CX0 "_has_needed" ["group", "recipe"] 1 (spNeeded K)) : FnOk P w K mg base CX0 2 f fd ["house", "group", "runs"] (spAfter K C) := by
  refine F.ok sc__stock_after (fun vs H Q E h => ?_) (fun cdv A outer s H vs Q E hr h => ⟨_, PSs.nox (pss_cons (ps_set (i := 3) sc__stock_after.nd rfl (.inl rfl) (pe_op op_rep (pe_lst (pa_cons pe_int pa_nil)) (pe_callB call_len_seq (by rfl) M.len (by decide +kernel) (pa_cons (pe_fld (pv 0) rfl) pa_nil))))
  (pss_cons (ps_for PassesOwn.never rfl (pi_tup (pv 1)) (pg_name (i := 4) sc__stock_after.nd rfl (.inl rfl)) (pss_one (ps_expr (pe_callC C__put (hr.mono (by first | decide | exact Nat.le_refl _ | omega)) (by rfl) (pa_cons (pv 3) (pa_cons (pe_ix (show IxR _ (rIxT K) from ix_tup) (pe_ix (show IxR _ (rIxT K) from ix_tup) (pe_fld (pv 0) rfl) (pv 4) (fun _ _ => rfl)) pe_int (fun _ _ => rfl)) pa_nil))))))
  (pss_cons (ps_for PassesOwn.never rfl (RZ.pi_zipA (by rfl) M.zip (pa_cons (pe_fld (pv 0) rfl) (pa_cons (pv 2) pa_nil))) (pg_tup (by rfl) (pgs_cons (pg_name (i := 5) sc__stock_after.nd rfl (.inl rfl)) (pgs_cons (pg_name (i := 6) sc__stock_after.nd rfl (.inl rfl)) pgs_nil))) (pss_cons (ps_if (PW.pt (pw_and (pt_cmpR op_gt (pv 6) pe_int (nomark _)) (pw_and1 (pt_not (pt_val (pe_callC C__has_needed (hr.mono (by first | decide | exact Nat.le_refl _ | omega)) (by rfl) (pa_cons (pv 1) (pa_cons (pv 5) pa_nil)))))))) (pss_one (ps_ret pe_non)) pss_nil)
  (pss_one (ps_for PassesOwn.never rfl (pi_range1 (by rfl) M.range (pa_cons (pv 6) pa_nil)) (pg_name (i := 7) sc__stock_after.nd rfl (.inl rfl)) (pss_cons (ps_if (pt_not (pt_val (pe_callC C__has_all (hr.mono (by first | decide | exact Nat.le_refl _ | omega)) (by rfl) (pa_cons (pv 3) (pa_cons (pe_ix (show IxR _ (rIxT K) from ix_tup) (pv 5) pe_int (fun _ _ => rfl)) pa_nil))))) (pss_one (ps_ret pe_non)) pss_nil)
  (pss_cons (ps_expr (pe_callC C__take (hr.mono (by first | decide | exact Nat.le_refl _ | omega)) (by rfl) (pa_cons (pv 3) (pa_cons (pe_ix (show IxR _ (rIxT K) from ix_tup) (pv 5) pe_int (fun _ _ => rfl)) pa_nil))))
  (pss_one (ps_expr (pe_callC C__put (hr.mono (by first | decide | exact Nat.le_refl _ | omega)) (by rfl) (pa_cons (pv 3) (pa_cons (pe_ix (show IxR _ (rIxT K) from ix_tup) (pv 5) pe_int (fun _ _ => rfl)) pa_nil)))))))))))
  (pss_one (ps_ret (pv 3)))))), ?_⟩)
  · obtain ⟨a, g, rn, h, gr, runs, rfl, _⟩ := h
    rfl
  · obtain ⟨a, g, rn, h, gr, runs, rfl, ha, ok, hg, hgl, hgm, hrn, hrb, q0, q1⟩ := h
    have hsz := sizeLine_eq
    obtain ⟨dx, u1, u2, u3, u4, u5, ea, d1, d2, d3, d4, d5⟩ := ha
    cases d1 with
    | @tup a1 x1 _ s1 e1 =>
    cases d2 with
    | @tup a2 x2 _ s2 e2 =>
    cases d4 with
    | @tup a4 x4 _ s4 e4 =>
    have ex1 := strD_eq e1
    subst ex1
    have hg1 := ok.g1
    have l4 := dpa_len e4
    rw [List.length_map] at l4
    refine ⟨(by show 1 ≤ sizeLine; omega), fun L hL => ?_⟩
    have sL := same_upd (o := .lst [.int 0]) hL
    refine ⟨_, rfl, a, C, dx, _, _, rfl, sL _ _ ea, T.cl, T.n1, rfl, a1, _, rfl, .inr (same_seqT sL s1), ?_⟩
    refine ⟨L, _, _, rfl, rfl, upd_same, by omega, by rw [List.length_map]; omega, by rw [List.length_map]; show 1 * _ ≤ _; omega, fun S hS => ?_⟩
    rw [List.length_map, Int.toNat_natCast, flat_zero]
    have hS0 : H S = none := back_none sL hS
    have sS : Same H (upd (upd H L (.lst [.int 0])) S (.lst ((zeros h).map V.int))) := sL.trans (same_upd hS)
    have eS : upd (upd H L (.lst [.int 0])) S (.lst ((zeros h).map V.int)) S = some (.lst ((zeros h).map V.int)) := upd_same
    show gName 3 (.ref S) _ (upd (upd H L (.lst [.int 0])) S (.lst ((zeros h).map V.int))) _
    generalize upd (upd H L (.lst [.int 0])) S (.lst ((zeros h).map V.int)) = H1 at sS eS ⊢
    clear sL hL hS
    -- what the members hold
    refine ⟨_, rfl, g, rfl, ⟨_, same_seqT sS hg⟩, ?_⟩
    refine for_tup (K := K) (a := g) (xs := natV gr) (fun i σ H' => (∃ z4 z5 z6 z7, σ = [some (.ref a), some (.ref g), some (.ref rn), some (.ref S), z4, z5, z6, z7]) ∧ Same H H' ∧ H' S = some (.lst (((gr.take i).foldl (fun st m => putL st (heldBy h m)) (zeros h)).map V.int))) ⟨⟨_, _, _, _, rfl⟩, sS, eS⟩ (fun i σ H' _ x => same_seqT x.2.1 hg) ?_ ?_
    · rintro i x σ H' hx ⟨⟨z4, z5, z6, z7, rfl⟩, sm, eM⟩
      obtain ⟨k, hk, rfl⟩ := natV_get hx
      have hkm := hgm k (List.mem_of_getElem? hk)
      obtain ⟨b, t, nm, m1, m2, m3⟩ := memb_at e2 hkm
      refine ⟨_, rfl, _, rfl, a, C, dx, _, _, rfl, sm _ _ ea, T.cl, T.n2, rfl, _, rfl, a2, _, _, _, rfl, rfl, same_seqT sm s2, atI_nat m1, b, _, 1, _, rfl, rfl, same_seqT sm m2, rfl, ?_⟩
      dsimp only [tNil]
      have okm : AmtOk h.goods.length (heldBy h k) := by
        unfold heldBy
        rw [List.getD_eq_getElem?_getD, List.getElem?_eq_getElem hkm]
        exact ok.m2 _ (List.getElem_mem hkm)
      refine ⟨S, t, _, heldBy h k, rfl, eM, dp_same sm m3, fun p hp => by rw [stock_len, zeros_len]; exact okm.ix p hp, by have := okm.len; omega, ?_⟩
      exact ⟨⟨_, _, _, _, rfl⟩, same_upd_new sm hS0, by rw [upd_same, foldl_take hk]⟩
    · rintro σ H' ⟨⟨z4, z5, z6, z7, rfl⟩, sm, eM⟩
      have ln : (natV gr).length = gr.length := List.length_map _
      rw [ln, List.take_length] at eM
      -- the recipes
      refine ⟨_, rfl, a, C, dx, _, _, rfl, sm _ _ ea, T.cl, T.n4, rfl, _, rfl, a4, rn, _, _, rfl, .inr ⟨same_seqT sm s4, same_seqT sm hrn, ?_⟩⟩
      refine for_it (walk_zipT (K := K) (a := a4) (b := rn) (xs := x4) (ys := runs.map V.int) (n := min x4.length (runs.map V.int).length) rfl) (fun i σ H5 => ∃ (st : List Int) (z4 z5 z6 z7 : Option V), σ = [some (.ref a), some (.ref g), some (.ref rn), some (.ref S), z4, z5, z6, z7] ∧ Same H H5 ∧ H5 S = some (.lst (st.map V.int)) ∧ st.length = h.goods.length ∧ recGo gr (h.recipes.drop i) (runs.drop i) st = stockAfter h gr runs)
        ⟨stock0 h gr, _, _, _, _, rfl, sm, eM, by unfold stock0; rw [stock_len, zeros_len], rfl⟩ (fun i σ H5 _ x => ?_) ?_ ?_
      · obtain ⟨_, _, _, _, _, _, s5, _⟩ := x
        exact ⟨same_seqT s5 s4, same_seqT s5 hrn⟩
      · rintro i x σ H5 H6 hi ⟨st, z4, z5, z6, z7, rfl, s5, e5, ls, go⟩ ⟨TT, y1, y2, rfl, hT, rfl, hy1, hy2⟩
        replace hy1 : x4[i]? = some y1 := hy1
        replace hy2 : (runs.map V.int)[i]? = some y2 := hy2
        obtain ⟨r, hr1, dr⟩ := map_get e4 hy1
        have hrok := ok.r2 r (List.mem_of_getElem? hr1)
        rw [List.getElem?_map] at hy2
        cases en : runs[i]? with
        | none =>
          rw [en] at hy2
          cases hy2
        | some n =>
        rw [en] at hy2
        obtain rfl := Option.some.inj hy2
        have hnb := hrb n (List.mem_of_getElem? en)
        rw [drop_at hr1, drop_at en, recGo] at go
        have s6 : Same H (upd H5 TT (.tup [y1, .int n])) := s5.trans (same_upd hT)
        have e6 := (same_upd (o := .tup [y1, .int n]) hT) _ _ e5
        refine ⟨TT, _, rfl, .inl (.inl upd_same), rfl, _, _, rfl, _, _, rfl, rfl, ?_⟩
        generalize upd H5 TT (.tup [y1, .int n]) = H6 at s6 e6 ⊢
        obtain ⟨rb, rnd, rt, rg, rfl, p1, p2, p3, p4⟩ := reci_parts dr
        refine ⟨_, rfl, _, _, rfl, rfl, _, rfl, ?_⟩
        show if decide (0 < n) = true then _ else _
        by_cases c : 0 < n
        · refine ifT (decide_eq_true c) ?_
          refine ⟨_, rfl, _, rfl, ?_⟩
          dsimp only [tNil]
          refine ⟨g, rb, gr, r, rfl, same_seqT s6 hg, dp_same s6 dr, by have := hrok.nl; omega, fun H7 s7 => ⟨_, rfl, ?_⟩⟩
          cases hb : hasNeeded gr r with
          | false =>
            rw [if_pos ⟨c, hb⟩] at go
            exact ifT rfl (q0 go.symm _ (s6.trans s7))
          | true =>
          rw [if_neg (fun z => by rw [hb] at z; cases z.2)] at go
          refine ifF rfl ?_
          have s6 := s6.trans s7
          have e6 := s7 _ _ e6
          clear s7
          generalize H7 = H6 at s6 e6 ⊢
          refine ⟨_, rfl, _, rfl, by omega, by omega, ?_⟩
          refine for_range (lo := 0) (n := n.toNat) (fun j σ H8 => ∃ (su : List Int) (z7 : Option V), σ = [some (.ref a), some (.ref g), some (.ref rn), some (.ref S), z4, some (.ref rb), some (.int n), z7] ∧ Same H H8 ∧ H8 S = some (.lst (su.map V.int)) ∧ su.length = h.goods.length ∧ runsGo r (n.toNat - j) su = runsGo r n.toNat st) ⟨st, _, rfl, s6, e6, ls, rfl⟩ ?_ ?_
          · rintro j σ H8 hj ⟨su, z7, rfl, s8, e8, l8, g8⟩
            have ej : n.toNat - j = (n.toNat - (j + 1)) + 1 := by omega
            rw [ej, runsGo] at g8
            have tk := hrok.tk
            have gv := hrok.gv
            have tl := tk.len
            have gl := gv.len
            obtain ⟨xt, p3a, p3b⟩ : ∃ xs, SqT K H rt xs ∧ DpAll K H xs (amtD r.takes) := by
              cases p3 with
              | @tup _ xs _ u1 u2 => exact ⟨xs, u1, u2⟩
            refine ⟨_, rfl, _, rfl, rb, _, 4, _, rfl, rfl, same_seqT s8 p1, rfl, ?_⟩
            dsimp only [tNil]
            refine ⟨S, rt, su, xt, r.takes, rfl, .inl (.inl e8), .inr (same_seqT s8 p3a), dpa_same s8 p3b, fun p hp => by rw [l8]; exact tk.ix p hp, by omega, fun H9 s9 => ⟨_, rfl, ?_⟩⟩
            have s10 := s8.trans s9
            have e10 := s9 _ _ e8
            cases hb : hasAll su r.takes with
            | false =>
              rw [if_neg (by rw [hb]; exact Bool.false_ne_true)] at g8
              rw [← g8] at go
              exact ifT rfl (q0 go.symm _ s10)
            | true =>
            rw [if_pos hb] at g8
            refine ifF rfl ?_
            refine ⟨_, rfl, _, rfl, rb, _, 4, _, rfl, rfl, same_seqT s10 p1, rfl, ?_⟩
            dsimp only [tNil]
            refine ⟨S, rt, su, r.takes, rfl, e10, dp_same s10 p3, fun p hp => by rw [l8]; exact tk.ix p hp, by omega, ?_⟩
            have s11 : Same H (upd H9 S (.lst ((takeL su r.takes).map V.int))) := same_upd_new s10 hS0
            refine ⟨_, rfl, _, rfl, rb, _, 5, _, rfl, rfl, same_seqT s11 p1, rfl, ?_⟩
            dsimp only [tNil]
            refine ⟨S, rg, _, r.gives, rfl, upd_same, dp_same s11 p4, fun p hp => by rw [takeL_len, l8]; exact gv.ix p hp, by omega, ?_⟩
            exact ⟨_, _, rfl, same_upd_new s11 hS0, upd_same, by rw [putL_len, takeL_len]; exact l8, g8⟩
          · rintro σ H8 ⟨su, z7, rfl, s8, e8, l8, g8⟩
            rw [Nat.sub_self, runsGo] at g8
            rw [← g8] at go
            exact ⟨su, _, _, _, _, rfl, s8, e8, l8, go⟩
        · refine ifF (decide_eq_false c) ?_
          rw [if_neg (fun z => c z.1)] at go
          refine ifF rfl ?_
          refine ⟨_, rfl, _, rfl, by omega, by omega, ?_⟩
          refine for_range (lo := 0) (n := n.toNat) (fun j σ H8 => ∃ (su : List Int) (z7 : Option V), σ = [some (.ref a), some (.ref g), some (.ref rn), some (.ref S), z4, some (.ref rb), some (.int n), z7] ∧ Same H H8 ∧ H8 S = some (.lst (su.map V.int)) ∧ su.length = h.goods.length ∧ runsGo r (n.toNat - j) su = runsGo r n.toNat st) ⟨st, _, rfl, s6, e6, ls, rfl⟩ ?_ ?_
          · rintro j σ H8 hj ⟨su, z7, rfl, s8, e8, l8, g8⟩
            have ej : n.toNat - j = (n.toNat - (j + 1)) + 1 := by omega
            rw [ej, runsGo] at g8
            have tk := hrok.tk
            have gv := hrok.gv
            have tl := tk.len
            have gl := gv.len
            obtain ⟨xt, p3a, p3b⟩ : ∃ xs, SqT K H rt xs ∧ DpAll K H xs (amtD r.takes) := by
              cases p3 with
              | @tup _ xs _ u1 u2 => exact ⟨xs, u1, u2⟩
            refine ⟨_, rfl, _, rfl, rb, _, 4, _, rfl, rfl, same_seqT s8 p1, rfl, ?_⟩
            dsimp only [tNil]
            refine ⟨S, rt, su, xt, r.takes, rfl, .inl (.inl e8), .inr (same_seqT s8 p3a), dpa_same s8 p3b, fun p hp => by rw [l8]; exact tk.ix p hp, by omega, fun H9 s9 => ⟨_, rfl, ?_⟩⟩
            have s10 := s8.trans s9
            have e10 := s9 _ _ e8
            cases hb : hasAll su r.takes with
            | false =>
              rw [if_neg (by rw [hb]; exact Bool.false_ne_true)] at g8
              rw [← g8] at go
              exact ifT rfl (q0 go.symm _ s10)
            | true =>
            rw [if_pos hb] at g8
            refine ifF rfl ?_
            refine ⟨_, rfl, _, rfl, rb, _, 4, _, rfl, rfl, same_seqT s10 p1, rfl, ?_⟩
            dsimp only [tNil]
            refine ⟨S, rt, su, r.takes, rfl, e10, dp_same s10 p3, fun p hp => by rw [l8]; exact tk.ix p hp, by omega, ?_⟩
            have s11 : Same H (upd H9 S (.lst ((takeL su r.takes).map V.int))) := same_upd_new s10 hS0
            refine ⟨_, rfl, _, rfl, rb, _, 5, _, rfl, rfl, same_seqT s11 p1, rfl, ?_⟩
            dsimp only [tNil]
            refine ⟨S, rg, _, r.gives, rfl, upd_same, dp_same s11 p4, fun p hp => by rw [takeL_len, l8]; exact gv.ix p hp, by omega, ?_⟩
            exact ⟨_, _, rfl, same_upd_new s11 hS0, upd_same, by rw [putL_len, takeL_len]; exact l8, g8⟩
          · rintro σ H8 ⟨su, z7, rfl, s8, e8, l8, g8⟩
            rw [Nat.sub_self, runsGo] at g8
            rw [← g8] at go
            exact ⟨su, _, _, _, _, rfl, s8, e8, l8, go⟩
      · rintro σ H5 ⟨st, z4, z5, z6, z7, rfl, s5, e5, ls, go⟩
        have er : recGo gr (h.recipes.drop (min x4.length (runs.map V.int).length)) (runs.drop (min x4.length (runs.map V.int).length)) st = some st := by
          rw [List.length_map, l4]
          by_cases c : h.recipes.length ≤ runs.length
          · rw [Nat.min_eq_left c, List.drop_length]
            cases runs.drop h.recipes.length <;> rfl
          · rw [Nat.min_eq_right (by omega), List.drop_length]
            cases h.recipes.drop runs.length <;> rfl
        rw [er] at go
        exact ⟨_, rfl, q1 st go.symm ls S H5 hS0 s5 e5⟩
end

/-! ### what groups earn: orders, pays, costs, plans -/
theorem pe_fldK {X : Cx} {K : PySem.W.Frag} {e : Expr} {ta : TE} {f : Str} {pos : Pos} (hK : X.K = K) (he : PE X e ta) (hb : attributeBase e f X.env (eval e X.env) = eval e X.env) : PE X (.Attribute e f pos) (tFld K ta f) := by
  subst hK
  exact pe_fld he hb
theorem dpa_of {K : PySem.W.Frag} {H : Hp} : ∀ (vs : List V) (ds : List PyData), vs.length = ds.length → (∀ (i : Nat) (v : V) (d : PyData), vs[i]? = some v → ds[i]? = some d → Dp K H v d) → DpAll K H vs ds
  | [], [], _, _ => .nil
  | [], _ :: _, h, _ => by cases h
  | _ :: _, [], h, _ => by cases h
  | v :: vs, d :: ds, h, f => .cons (f 0 v d rfl rfl) (dpa_of vs ds (Nat.succ.inj h) fun i v' d' a b => f (i + 1) v' d' a b)
theorem ord_at {K : PySem.W.Frag} {H : Hp} {xs : List V} {h : Hous} {o : Int} (d : DpAll K H xs (h.orders.map ordT)) (h0 : 0 ≤ o) (h1 : o < (h.orders.length : Int)) : ∃ (b t : Addr) (nm : Str), atI xs o = some (.ref b) ∧ SqT K H b [.str nm, .int (ordAt h o).pay, .ref t] ∧ Dp K H (.ref t) (.tuple (amtD (ordAt h o).takes)) ∧ ordAt h o ∈ h.orders := by
  obtain ⟨k, rfl⟩ : ∃ k : Nat, o = (k : Int) := ⟨o.toNat, by omega⟩
  have hk : k < h.orders.length := by omega
  have e : ordAt h (k : Int) = h.orders[k] := by
    unfold ordAt
    rw [Int.toNat_natCast, List.getD_eq_getElem?_getD, List.getElem?_eq_getElem hk]
    rfl
  obtain ⟨v, h2, h3⟩ := dpa_at (k := k) (d := ordT h.orders[k]) d (by rw [List.getElem?_map, List.getElem?_eq_getElem hk]; rfl)
  rw [e]
  cases h3 with
  | @tup b ys _ hs hd =>
    cases hd with
    | cons a1 hd =>
    cases a1
    cases hd with
    | cons a2 hd =>
    cases a2
    cases hd with
    | cons a3 hd =>
    cases hd
    cases a3 with
    | @tup t xt _ ht dt =>
    exact ⟨b, t, _, atI_nat h2, hs, .tup ht dt, List.getElem_mem hk⟩
theorem intV_at {l : List Int} {i : Nat} {x : V} (h : (l.map V.int)[i]? = some x) : ∃ n, l[i]? = some n ∧ x = .int n := by
  rw [List.getElem?_map] at h
  cases e : l[i]? with
  | none =>
    rw [e] at h
    cases h
  | some n =>
    rw [e] at h
    exact ⟨n, rfl, (Option.some.inj h).symm⟩
theorem takenV_len (h : Hous) : ∀ (l : List Int) (a : List Int), (l.foldl (fun st o => putL st (ordAt h o).takes) a).length = a.length
  | [], _ => rfl
  | m :: g, a => by rw [List.foldl_cons, takenV_len h g, putL_len]
theorem enum_dpa {K : PySem.W.Frag} {H : Hp} {ts : List Addr} {l : List Int} (hl : ts.length = (l.map V.int).length) (h : ∀ (j : Nat) (t : Addr) (x : V), ts[j]? = some t → (l.map V.int)[j]? = some x → H t = some (.tup [.int ((j : Nat) : Int), x])) : DpAll K H (ts.map V.ref) (amtD (enumV l)) := by
  rw [List.length_map] at hl
  refine dpa_of _ _ (by unfold amtD enumV; rw [List.length_map, List.length_map, List.length_map, List.length_range]; exact hl) fun i v d hv hd => ?_
  rw [List.getElem?_map] at hv
  cases e : ts[i]? with
  | none =>
    rw [e] at hv
    cases hv
  | some t =>
    rw [e] at hv
    obtain rfl := Option.some.inj hv
    have hi : i < l.length := by
      have := (List.getElem?_eq_some_iff.mp e).1
      omega
    unfold amtD enumV at hd
    rw [List.map_map, List.getElem?_map, List.getElem?_range hi] at hd
    obtain rfl := Option.some.inj hd
    have := h i t _ e (intV_get hi)
    exact .tup (.inl (.inl this)) (.cons (.int _) (.cons (.int _) .nil))
def FillOk (h : Hous) (fv : List Int) : Prop := fv.length ≤ 1000 ∧ ∀ o ∈ fv, 0 ≤ o ∧ o < (h.orders.length : Int)
def spTaken (K : PySem.W.Frag) (C : Addr) : Sp := fun vs H Q _ => ∃ (a fl : Addr) (h : Hous) (fv : List Int), vs = [.ref a, .ref fl] ∧ HAt K C H a h ∧ HousOk h ∧ SqT K H fl (fv.map V.int) ∧ FillOk h fv ∧
  ∀ (D : Addr) (H' : Hp) (ys : List V), H D = none → Same H H' → H' D = some (.lst ys) → DpAll K H' ys (amtD (takenL h fv)) → Q (.ref D) H'
def spPay (K : PySem.W.Frag) (C : Addr) : Sp := fun vs H Q _ => ∃ (a fl : Addr) (h : Hous) (fv : List Int), vs = [.ref a, .ref fl] ∧ HAt K C H a h ∧ SqT K H fl (fv.map V.int) ∧ FillOk h fv ∧ ∀ H', Same H H' → Q (.int (payOf h fv)) H'
def spCost (K : PySem.W.Frag) (C : Addr) : Sp := fun vs H Q _ => ∃ (a rn : Addr) (h : Hous) (runs : List Int), vs = [.ref a, .ref rn] ∧ HAt K C H a h ∧ HousOk h ∧ SqT K H rn (runs.map V.int) ∧ runs.length ≤ 1000 ∧ ∀ H', Same H H' → Q (.int (costOf h runs)) H'
def spAreRuns (K : PySem.W.Frag) (C : Addr) : Sp := fun vs H Q _ => ∃ (a rn : Addr) (h : Hous) (runs : List Int), vs = [.ref a, .ref rn] ∧ HAt K C H a h ∧ HousOk h ∧ SqT K H rn (runs.map V.int) ∧ runs.length ≤ 1000 ∧ ∀ H', Same H H' → Q (.bl (areRuns h runs)) H'
def spAreFilled (K : PySem.W.Frag) (C : Addr) : Sp := fun vs H Q _ => ∃ (a fl : Addr) (h : Hous) (fv : List Int), vs = [.ref a, .ref fl] ∧ HAt K C H a h ∧ HousOk h ∧ SqT K H fl (fv.map V.int) ∧ fv.length ≤ 1000 ∧ ∀ H', Same H H' → Q (.bl (areFilled h.orders.length fv)) H'
section
variable {P : Program} {w : World} {K : PySem.W.Frag} {mg : Str → Option Value} {base : Heap} {f C : Addr} {fd : FuncData}
theorem ok__taken (T : HouT K mg C) (M : MB mg) (F : FnP K "_taken" s__taken f fd) (C__put : Callee P w K mg base CX0 "_put" ["stock", "amounts"] 1 (spPut K putL)) : FnOk P w K mg base CX0 2 f fd ["house", "filled"] (spTaken K C) := by
  refine F.ok sc__taken (fun vs H Q E h => ?_) (fun cdv A outer s H vs Q E hr h => ⟨_, PSs.nox (pss_cons (ps_set (i := 2) sc__taken.nd rfl (.inl rfl) (pe_op op_rep (pe_lst (pa_cons pe_int pa_nil)) (pe_callB call_len_seq (by rfl) M.len (by decide +kernel) (pa_cons (pe_fld (pv 0) rfl) pa_nil))))
  (pss_cons (ps_for PassesOwn.never rfl (pi_tup (pv 1)) (pg_name (i := 3) sc__taken.nd rfl (.inl rfl)) (pss_one (ps_expr (pe_callC C__put (hr.mono (by first | decide | exact Nat.le_refl _ | omega)) (by rfl) (pa_cons (pv 2) (pa_cons (pe_ix (show IxR _ (rIxT K) from ix_tup) (pe_ix (show IxR _ (rIxT K) from ix_tup) (pe_fld (pv 0) rfl) (pv 3) (fun _ _ => rfl)) pe_int (fun _ _ => rfl)) pa_nil))))))
  (pss_one (ps_ret (pe_listEnum rfl (by rfl) M.list (by rfl) M.enumerate (pv 2)))))), ?_⟩)
  · obtain ⟨a, fl, h, fv, rfl, _⟩ := h
    rfl
  · obtain ⟨a, fl, h, fv, rfl, ha, ok, hfl, hfv, q⟩ := h
    have hsz := sizeLine_eq
    obtain ⟨dx, u1, u2, u3, u4, u5, ea, d1, d2, d3, d4, d5⟩ := ha
    cases d1 with
    | @tup a1 x1 _ s1 e1 =>
    cases d5 with
    | @tup a5 x5 _ s5 e5 =>
    have ex1 := strD_eq e1
    subst ex1
    have hg1 := ok.g1
    refine ⟨(by show 1 ≤ sizeLine; omega), fun L hL => ?_⟩
    have sL := same_upd (o := .lst [.int 0]) hL
    refine ⟨_, rfl, a, C, dx, _, _, rfl, sL _ _ ea, T.cl, T.n1, rfl, a1, _, rfl, .inr (same_seqT sL s1), ?_⟩
    refine ⟨L, _, _, rfl, rfl, upd_same, by omega, by rw [List.length_map]; omega, by rw [List.length_map]; show 1 * _ ≤ _; omega, fun S hS => ?_⟩
    rw [List.length_map, Int.toNat_natCast, flat_zero]
    have hS0 : H S = none := back_none sL hS
    have sS : Same H (upd (upd H L (.lst [.int 0])) S (.lst ((zeros h).map V.int))) := sL.trans (same_upd hS)
    have eS : upd (upd H L (.lst [.int 0])) S (.lst ((zeros h).map V.int)) S = some (.lst ((zeros h).map V.int)) := upd_same
    show gName 2 (.ref S) _ (upd (upd H L (.lst [.int 0])) S (.lst ((zeros h).map V.int))) _
    generalize upd (upd H L (.lst [.int 0])) S (.lst ((zeros h).map V.int)) = H1 at sS eS ⊢
    clear sL hL hS
    refine ⟨_, rfl, fl, rfl, ⟨_, same_seqT sS hfl⟩, ?_⟩
    refine for_tup (K := K) (a := fl) (xs := fv.map V.int) (fun i σ H' => (∃ z3, σ = [some (.ref a), some (.ref fl), some (.ref S), z3]) ∧ Same H H' ∧ H' S = some (.lst (((fv.take i).foldl (fun st o => putL st (ordAt h o).takes) (zeros h)).map V.int))) ⟨⟨_, rfl⟩, sS, eS⟩ (fun i σ H' _ x => same_seqT x.2.1 hfl) ?_ ?_
    · rintro i x σ H' hx ⟨⟨z3, rfl⟩, sm, eM⟩
      obtain ⟨o, ho, rfl⟩ := intV_at hx
      obtain ⟨o0, o1⟩ := hfv.2 o (List.mem_of_getElem? ho)
      obtain ⟨b, t, nm, m1, m2, m3, m4⟩ := ord_at e5 o0 o1
      have okm := (ok.o2 _ m4).tk
      refine ⟨_, rfl, _, rfl, a, C, dx, _, _, rfl, sm _ _ ea, T.cl, T.n5, rfl, _, rfl, a5, _, _, _, rfl, rfl, same_seqT sm s5, m1, b, _, 2, _, rfl, rfl, same_seqT sm m2, rfl, ?_⟩
      dsimp only [tNil]
      refine ⟨S, t, _, (ordAt h o).takes, rfl, eM, dp_same sm m3, fun p hp => by rw [takenV_len, zeros_len]; exact okm.ix p hp, by have := okm.len; omega, ?_⟩
      exact ⟨⟨_, rfl⟩, same_upd_new sm hS0, by rw [upd_same, foldl_take ho]⟩
    · rintro σ H' ⟨⟨z3, rfl⟩, sm, eM⟩
      rw [List.length_map, List.take_length] at eM
      refine ⟨_, rfl, S, _, rfl, .inl (.inl eM), fun D ts H2 hD2 _ _ s2 e2 l2 f2 => ?_⟩
      exact q D H2 _ (back_none sm hD2) (sm.trans s2) e2 (enum_dpa l2 f2)
theorem ok__pay (T : HouT K mg C) (M : MB mg) (F : FnP K "_pay" s__pay f fd) : FnOk P w K mg base CX0 1 f fd ["house", "filled"] (spPay K C) := by
  refine F.ok sc__pay (fun vs H Q E h => ?_) (fun cdv A outer s H vs Q E hr h => ⟨_, PSs.nox (pss_one (ps_ret (pe_callB (cr_sum rfl) (by rfl) M.sum (by decide +kernel) (pa_cons (pe_lc (own := [("order", 2)]) (g := gName 2) (by rfl) sc__pay.nd (pi_tup (pv 1)) (blkOk_by (own := [("order", 2)]) (N := N__pay) (sc := defScope s__pay) (by decide +kernel)) (fun _ _ _ _ _ => pg_name (i := 2) sc__pay.nd rfl (.inl rfl)) (fun _ _ _ _ _ => pts_nil) (fun _ _ _ _ _ => (pe_ix (show IxR _ (rIxT K) from ix_tup) (pe_ix (show IxR _ (rIxT K) from ix_tup) (pe_fldK (K := K) rfl (pv 0) rfl) (pv 2) (fun _ _ => rfl)) pe_int (fun _ _ => rfl)))) pa_nil)))), ?_⟩)
  · obtain ⟨a, fl, h, fv, rfl, _⟩ := h
    rfl
  · obtain ⟨a, fl, h, fv, rfl, ha, hfl, hfv, q⟩ := h
    have hsz := sizeLine_eq
    obtain ⟨dx, u1, u2, u3, u4, u5, ea, d1, d2, d3, d4, d5⟩ := ha
    cases d5 with
    | @tup a5 x5 _ s5 e5 =>
    refine ⟨_, rfl, fl, rfl, ⟨_, hfl⟩, fun D hD => ?_⟩
    have hf1 := hfv.1
    refine lc_tup (K := K) (a := fl) (xs := fv.map V.int) (fun i H' => H' = upd H D (.lst ((fv.take i).map fun o => V.int (ordAt h o).pay))) rfl (fun i H' _ e => ?_) (fun i x H' hx e => ?_) (fun H' e => ?_)
    · rw [e]
      exact same_seqT (same_upd hD) hfl
    · subst e
      obtain ⟨o, ho, rfl⟩ := intV_at hx
      obtain ⟨o0, o1⟩ := hfv.2 o (List.mem_of_getElem? ho)
      obtain ⟨b, t, nm, m1, m2, m3, m4⟩ := ord_at e5 o0 o1
      have sm := same_upd (o := .lst ((fv.take i).map fun o => V.int (ordAt h o).pay)) hD
      refine ⟨rfl, yes_of ?_⟩
      refine ⟨_, rfl, a, C, dx, _, _, rfl, sm _ _ ea, T.cl, T.n5, rfl, _, rfl, a5, _, _, _, rfl, rfl, same_seqT sm s5, m1, b, _, 1, _, rfl, rfl, same_seqT sm m2, rfl, ?_⟩
      refine ⟨_, upd_same, by rw [List.length_map, List.length_take]; omega, ?_⟩
      rw [upd_upd]
      obtain ⟨hk, he⟩ := List.getElem?_eq_some_iff.mp ho
      rw [List.take_succ_eq_append_getElem hk, he, List.map_append]
      rfl
    · rw [List.length_map, List.take_length] at e
      subst e
      exact ⟨D, fv.map fun o => (ordAt h o).pay, rfl, .inl (.inl (by rw [upd_same, List.map_map]; rfl)), q _ (same_upd hD)⟩
theorem ok__cost (T : HouT K mg C) (M : MB mg) (F : FnP K "_cost" s__cost f fd) : FnOk P w K mg base CX0 1 f fd ["house", "runs"] (spCost K C) := by
  refine F.ok sc__cost (fun vs H Q E h => ?_) (fun cdv A outer s H vs Q E hr h => ⟨_, PSs.nox (pss_one (ps_ret (pe_callB (cr_sum rfl) (by rfl) M.sum (by decide +kernel) (pa_cons (pe_lc (own := [("many", 2), ("recipe", 3)]) (g := (gTup K 2 (gCons (gName 2) (gCons (gName 3) gNil)))) (by rfl) sc__cost.nd (RZ.pi_zipA (by rfl) M.zip (pa_cons (pv 1) (pa_cons (pe_fld (pv 0) rfl) pa_nil))) (blkOk_by (own := [("many", 2), ("recipe", 3)]) (N := N__cost) (sc := defScope s__cost) (by decide +kernel)) (fun _ _ _ _ _ => (pg_tup (by rfl) (pgs_cons (pg_name (i := 2) sc__cost.nd rfl (.inl rfl)) (pgs_cons (pg_name (i := 3) sc__cost.nd rfl (.inl rfl)) pgs_nil)))) (fun _ _ _ _ _ => pts_nil) (fun _ _ _ _ _ => (pe_op op_mul (pv 2) (pe_ix (show IxR _ (rIxT K) from ix_tup) (pv 3) pe_int (fun _ _ => rfl))))) pa_nil)))), ?_⟩)
  · obtain ⟨a, rn, h, runs, rfl, _⟩ := h
    rfl
  · obtain ⟨a, rn, h, runs, rfl, ha, ok, hrn, hrl, q⟩ := h
    have hsz := sizeLine_eq
    obtain ⟨dx, u1, u2, u3, u4, u5, ea, d1, d2, d3, d4, d5⟩ := ha
    cases d4 with
    | @tup a4 x4 _ s4 e4 =>
    have l4 := dpa_len e4
    rw [List.length_map] at l4
    refine ⟨_, rfl, _, rfl, a, C, dx, _, _, rfl, ea, T.cl, T.n4, rfl, rn, a4, _, _, rfl, .inr ⟨hrn, s4, fun D hD => ?_⟩⟩
    refine lc_it (walk_zipT (K := K) (a := rn) (b := a4) (xs := runs.map V.int) (ys := x4) (n := (runs.zip h.recipes).length) (by rw [List.length_zip, List.length_map, l4])) (fun i H' => Same H H' ∧ H' D = some (.lst (((runs.zip h.recipes).take i).map fun p => V.int (p.1 * p.2.cost)))) ⟨same_upd hD, upd_same⟩ (fun i H' _ e => ?_) (fun i x H' H2 hi e hy => ?_) (fun H' e => ?_)
    · exact ⟨same_seqT e.1 hrn, same_seqT e.1 s4⟩
    · obtain ⟨sm, eM⟩ := e
      obtain ⟨TT, y1, y2, rfl, hT, rfl, hy1, hy2⟩ := hy
      replace hy1 : (runs.map V.int)[i]? = some y1 := hy1
      replace hy2 : x4[i]? = some y2 := hy2
      obtain ⟨n, hn, rfl⟩ := intV_at hy1
      obtain ⟨r, hr1, dr⟩ := map_get e4 hy2
      have rok := ok.r2 r (List.mem_of_getElem? hr1)
      obtain ⟨rb, rnd, rt, rg, rfl, p1, p2, p3, p4⟩ := reci_parts dr
      have sT := sm.trans (same_upd (o := .tup [.int n, .ref rb]) hT)
      have nDT : D ≠ TT := ne_of_none eM hT
      refine ⟨TT, _, rfl, .inl (.inl upd_same), rfl, _, _, rfl, _, _, rfl, rfl, rfl, yes_of ?_⟩
      refine ⟨_, rfl, _, rfl, rb, _, 1, _, rfl, rfl, same_seqT sT p1, rfl, _, _, rfl, rfl, .inr ⟨by have := rok.c0; omega, by have := rok.c1; omega⟩, ?_⟩
      refine ⟨_, (same_upd hT) _ _ eM, by rw [List.length_map, List.length_take, List.length_zip]; omega, same_upd_new sT hD, ?_⟩
      have hz : (runs.zip h.recipes)[i]? = some (n, r) := by
        rw [List.getElem?_zip_eq_some]
        exact ⟨hn, hr1⟩
      obtain ⟨hk, he⟩ := List.getElem?_eq_some_iff.mp hz
      rw [upd_same, List.take_succ_eq_append_getElem hk, he, List.map_append]
      rfl
    · rw [List.take_length] at e
      exact ⟨D, (runs.zip h.recipes).map fun (p : Int × Reci) => (p.1 * p.2.cost : Int), rfl, .inl (.inl (show H' D = some (.lst (((runs.zip h.recipes).map fun (p : Int × Reci) => (p.1 * p.2.cost : Int)).map V.int)) by rw [e.2, List.map_map]; rfl)), q _ e.1⟩
end

/-! ### what groups earn: which plans are plans -/
theorem atI_last {xs : List Int} (h : 0 < xs.length) : atI (xs.map V.int) (-1) = some (.int (xs.getD (xs.length - 1) 0)) := by
  have e : ixN (xs.map V.int).length (-1) = some (xs.length - 1) := by
    unfold ixN
    rw [List.length_map, if_neg (by decide), if_pos (by omega)]
    congr 1
    omega
  unfold atI
  rw [e]
  exact intV_get (by omega)
section
variable {P : Program} {w : World} {K : PySem.W.Frag} {mg : Str → Option Value} {base : Heap} {f C : Addr} {fd : FuncData}
theorem ok__are_runs (T : HouT K mg C) (M : MB mg) (F : FnP K "_are_runs" s__are_runs f fd) : FnOk P w K mg base CX0 1 f fd ["house", "runs"] (spAreRuns K C) := by
  refine F.ok sc__are_runs (fun vs H Q E h => ?_) (fun cdv A outer s H vs Q E hr h => ⟨_, PSs.nox (pss_cons (ps_if (pt_cmpR op_ne (pe_callB call_len_seq (by rfl) M.len (by decide +kernel) (pa_cons (pv 1) pa_nil)) (pe_callB call_len_seq (by rfl) M.len (by decide +kernel) (pa_cons (pe_fld (pv 0) rfl) pa_nil)) (nomark _)) (pss_one (ps_ret pe_bl)) pss_nil)
  (pss_one (ps_ret (pe_callB (cr_all rfl) (by rfl) M.all (by decide +kernel) (pa_cons (pe_lc (own := [("many", 2), ("recipe", 3)]) (g := (gTup K 2 (gCons (gName 2) (gCons (gName 3) gNil)))) (by rfl) sc__are_runs.nd (RZ.pi_zipA (by rfl) M.zip (pa_cons (pv 1) (pa_cons (pe_fld (pv 0) rfl) pa_nil))) (blkOk_by (own := [("many", 2), ("recipe", 3)]) (N := N__are_runs) (sc := defScope s__are_runs) (by decide +kernel)) (fun _ _ _ _ _ => (pg_tup (by rfl) (pgs_cons (pg_name (i := 2) sc__are_runs.nd rfl (.inl rfl)) (pgs_cons (pg_name (i := 3) sc__are_runs.nd rfl (.inl rfl)) pgs_nil)))) (fun _ _ _ _ _ => pts_nil) (fun _ _ _ _ _ => (pe_chain op_le op_le pe_int (pv 2) (pe_ix (show IxR _ (rIxT K) from ix_tup) (pv 3) pe_int (fun _ _ => rfl))))) pa_nil))))), ?_⟩)
  · obtain ⟨a, rn, h, runs, rfl, _⟩ := h
    rfl
  · obtain ⟨a, rn, h, runs, rfl, ha, ok, hrn, hrl, q⟩ := h
    have hsz := sizeLine_eq
    obtain ⟨dx, u1, u2, u3, u4, u5, ea, d1, d2, d3, d4, d5⟩ := ha
    cases d4 with
    | @tup a4 x4 _ s4 e4 =>
    have l4 := dpa_len e4
    rw [List.length_map] at l4
    have hr1 := ok.r1
    refine ⟨_, rfl, _, _, rfl, .inr hrn, _, rfl, a, C, dx, _, _, rfl, ea, T.cl, T.n4, rfl, _, _, rfl, .inr s4, rfl, _, rfl, ?_⟩
    rw [List.length_map, l4]
    by_cases c : runs.length = h.recipes.length
    · refine ifF (by rw [c]; simp) ?_
      refine ⟨_, rfl, _, rfl, a, C, dx, _, _, rfl, ea, T.cl, T.n4, rfl, rn, a4, _, _, rfl, .inr ⟨hrn, s4, fun D hD => ?_⟩⟩
      refine lc_it (walk_zipT (K := K) (a := rn) (b := a4) (xs := runs.map V.int) (ys := x4) (n := (runs.zip h.recipes).length) (by rw [List.length_zip, List.length_map, l4])) (fun i H' => Same H H' ∧ H' D = some (.lst (((runs.zip h.recipes).take i).map fun (p : Int × Reci) => V.bl (decide (0 ≤ p.1) && decide (p.1 ≤ p.2.times))))) ⟨same_upd hD, upd_same⟩ (fun i H' _ e => ?_) (fun i x H' H2 hi e hy => ?_) (fun H' e => ?_)
      · exact ⟨same_seqT e.1 hrn, same_seqT e.1 s4⟩
      · obtain ⟨sm, eM⟩ := e
        obtain ⟨TT, y1, y2, rfl, hT, rfl, hy1, hy2⟩ := hy
        replace hy1 : (runs.map V.int)[i]? = some y1 := hy1
        replace hy2 : x4[i]? = some y2 := hy2
        obtain ⟨n, hn, rfl⟩ := intV_at hy1
        obtain ⟨r, hr1, dr⟩ := map_get e4 hy2
        obtain ⟨rb, rnd, rt, rg, rfl, p1, p2, p3, p4⟩ := reci_parts dr
        have sT := sm.trans (same_upd (o := .tup [.int n, .ref rb]) hT)
        have hz : (runs.zip h.recipes)[i]? = some (n, r) := by
          rw [List.getElem?_zip_eq_some]
          exact ⟨hn, hr1⟩
        obtain ⟨hk, he⟩ := List.getElem?_eq_some_iff.mp hz
        refine ⟨TT, _, rfl, .inl (.inl upd_same), rfl, _, _, rfl, _, _, rfl, rfl, rfl, yes_of ?_⟩
        have fin : ∀ b : Bool, b = (decide (0 ≤ n) && decide (n ≤ r.times)) → ∃ acc, upd H' TT (.tup [.int n, .ref rb]) D = some (.lst acc) ∧ acc.length < sizeLine ∧ (Same H (upd (upd H' TT (.tup [.int n, .ref rb])) D (.lst (acc ++ [.bl b]))) ∧ upd (upd H' TT (.tup [.int n, .ref rb])) D (.lst (acc ++ [.bl b])) D = some (.lst (((runs.zip h.recipes).take (i + 1)).map fun (p : Int × Reci) => V.bl (decide (0 ≤ p.1) && decide (p.1 ≤ p.2.times))))) := by
          intro b hb
          refine ⟨_, (same_upd hT) _ _ eM, by rw [List.length_map, List.length_take, List.length_zip]; omega, same_upd_new sT hD, ?_⟩
          rw [upd_same, List.take_succ_eq_append_getElem hk, he, List.map_append, hb]
          rfl
        refine ⟨_, rfl, _, _, rfl, rfl, _, rfl, ?_⟩
        by_cases c0 : 0 ≤ n
        · refine ifT (decide_eq_true c0) ?_
          refine ⟨_, rfl, rb, _, 2, _, rfl, rfl, same_seqT sT p1, rfl, _, _, rfl, rfl, ?_⟩
          exact fin _ (by rw [decide_eq_true c0, Bool.true_and])
        · refine ifF (decide_eq_false c0) ?_
          exact fin _ (by rw [decide_eq_false c0, Bool.false_and])
      · rw [List.take_length] at e
        refine ⟨D, (runs.zip h.recipes).map fun (p : Int × Reci) => (decide (0 ≤ p.1) && decide (p.1 ≤ p.2.times) : Bool), rfl, .inl (.inl (show H' D = some (.lst (((runs.zip h.recipes).map fun (p : Int × Reci) => (decide (0 ≤ p.1) && decide (p.1 ≤ p.2.times) : Bool)).map V.bl)) by rw [e.2, List.map_map]; rfl)), ?_⟩
        have z : ((runs.zip h.recipes).map fun (p : Int × Reci) => (decide (0 ≤ p.1) && decide (p.1 ≤ p.2.times) : Bool)).all id = areRuns h runs := by
          unfold areRuns
          rw [decide_eq_true c, Bool.true_and, List.all_map]
          rfl
        rw [z]
        exact q _ e.1
    · refine ifT (by
        rw [decide_eq_false (fun z => c (by
          have := V.int.inj z
          omega))]
        rfl) ?_
      have z : areRuns h runs = false := by
        unfold areRuns
        rw [decide_eq_false c, Bool.false_and]
      have q2 := q H fun _ _ e => e
      rw [z] at q2
      exact q2
theorem ok__are_filled (T : HouT K mg C) (M : MB mg) (F : FnP K "_are_filled" s__are_filled f fd) : FnOk P w K mg base CX0 1 f fd ["house", "filled"] (spAreFilled K C) := by
  refine F.ok sc__are_filled (fun vs H Q E h => ?_) (fun cdv A outer s H vs Q E hr h => ⟨_, PSs.nox (pss_cons (ps_set (i := 2) sc__are_filled.nd rfl (.inl rfl) (pe_callB (cr_all rfl) (by rfl) M.all (by decide +kernel) (pa_cons (pe_lc (own := [("at", 3)]) (g := gName 3) (by rfl) sc__are_filled.nd (pi_range1 (by rfl) M.range (pa_cons (pe_op op_sub (pe_callB call_len_seq (by rfl) M.len (by decide +kernel) (pa_cons (pv 1) pa_nil)) pe_int) pa_nil)) (blkOk_by (own := [("at", 3)]) (N := N__are_filled) (sc := defScope s__are_filled) (by decide +kernel)) (fun _ _ _ _ _ => pg_name (i := 3) sc__are_filled.nd rfl (.inl rfl)) (fun _ _ _ _ _ => pts_nil) (fun _ _ _ _ _ => (pe_cmpR op_lt (pe_ix (show IxR _ (rIxT K) from ix_tup) (pv 1) (pv 3) (fun _ _ => rfl)) (pe_ix (show IxR _ (rIxT K) from ix_tup) (pv 1) (pe_op op_add (pv 3) pe_int) (fun _ _ => rfl)) (nomark _)))) pa_nil)))
  (pss_one (ps_ret (pe_and (pv 2) (pe_one (pe_or (pe_notT (pv 1)) (pe_one (pe_and (pe_cmpR op_ge (pe_ix (show IxR _ (rIxT K) from ix_tup) (pv 1) pe_int (fun _ _ => rfl)) pe_int (nomark _)) (pe_one (pe_cmpR op_lt (pe_ix (show IxR _ (rIxT K) from ix_tup) (pv 1) (pe_un un_neg pe_int) (fun _ _ => rfl)) (pe_callB call_len_seq (by rfl) M.len (by decide +kernel) (pa_cons (pe_fld (pv 0) rfl) pa_nil)) (nomark _))))))))))), ?_⟩)
  · obtain ⟨a, fl, h, fv, rfl, _⟩ := h
    rfl
  · obtain ⟨a, fl, h, fv, rfl, ha, ok, hfl, hfv, q⟩ := h
    have hsz := sizeLine_eq
    obtain ⟨dx, u1, u2, u3, u4, u5, ea, d1, d2, d3, d4, d5⟩ := ha
    cases d5 with
    | @tup a5 x5 _ s5 e5 =>
    have l5 := dpa_len e5
    rw [List.length_map] at l5
    have ho1 := ok.o1
    refine ⟨_, rfl, _, _, rfl, .inr hfl, _, _, rfl, rfl, _, rfl, by omega, by rw [List.length_map]; omega, fun D hD => ?_⟩
    have en : (((fv.map V.int).length : Int) - 1).toNat = fv.length - 1 := by rw [List.length_map]; omega
    refine lc_range (lo := 0) (n := (((fv.map V.int).length : Int) - 1).toNat) (fun i H' => H' = upd H D (.lst ((List.range i).map fun j => V.bl (decide (fv.getD j 0 < fv.getD (j + 1) 0))))) rfl ?_ ?_
    · rintro i H' hi rfl
      rw [en] at hi
      refine ⟨rfl, yes_of ?_⟩
      have sm := same_upd (o := .lst ((List.range i).map fun j => V.bl (decide (fv.getD j 0 < fv.getD (j + 1) 0)))) hD
      have ez : (0 : Int) + (i : Int) = (i : Int) := Int.zero_add _
      have e1 : (i : Int) + 1 = ((i + 1 : Nat) : Int) := by omega
      rw [ez]
      refine ⟨_, rfl, _, rfl, fl, _, _, _, rfl, rfl, same_seqT sm hfl, atI_nat (intV_get (show i < fv.length by omega)), ?_⟩
      refine ⟨_, rfl, _, rfl, _, _, rfl, rfl, fl, _, _, .int (fv.getD (i + 1) 0), rfl, rfl, same_seqT sm hfl, by rw [e1]; exact atI_nat (intV_get (by omega)), _, _, rfl, rfl, ?_⟩
      refine ⟨_, upd_same, by rw [List.length_map, List.length_range]; omega, ?_⟩
      rw [upd_upd, List.range_succ, List.map_append]
      rfl
    · rintro H' rfl
      rw [en]
      have sm := same_upd (o := .lst ((List.range (fv.length - 1)).map fun j => V.bl (decide (fv.getD j 0 < fv.getD (j + 1) 0)))) hD
      refine ⟨D, (List.range (fv.length - 1)).map fun (j : Nat) => (decide (fv.getD j 0 < fv.getD (j + 1) 0) : Bool), rfl, .inl (.inl (by rw [upd_same, List.map_map]; rfl)), ?_⟩
      have z : ((List.range (fv.length - 1)).map fun (j : Nat) => (decide (fv.getD j 0 < fv.getD (j + 1) 0) : Bool)).all id = ascB fv := by
        unfold ascB
        rw [List.all_map]
        rfl
      rw [z]
      have q2 := q _ sm
      unfold areFilled at q2
      refine ⟨_, rfl, _, rfl, ?_⟩
      cases hb : ascB fv with
      | false =>
        rw [hb, Bool.false_and] at q2
        exact ifF rfl q2
      | true =>
      rw [hb, Bool.true_and] at q2
      refine ifT rfl ?_
      refine ⟨_, rfl, !(fv.map V.int).isEmpty, .inr (.inl ⟨_, same_seqT sm hfl, rfl⟩), _, rfl, ?_⟩
      cases fv with
      | nil => exact ifT rfl q2
      | cons v l =>
        refine ifF rfl ?_
        rw [show (v :: l).isEmpty = false from rfl, Bool.false_or] at q2
        refine ⟨_, rfl, fl, _, 0, .int v, rfl, rfl, same_seqT sm hfl, atI_nat (j := 0) rfl, _, _, rfl, rfl, _, rfl, ?_⟩
        by_cases c0 : 0 ≤ v
        · refine ifT (decide_eq_true c0) ?_
          rw [show (v :: l).getD 0 0 = v from rfl, decide_eq_true c0, Bool.true_and] at q2
          refine ⟨_, rfl, _, rfl, fl, _, _, _, rfl, rfl, same_seqT sm hfl, atI_last (by rw [List.length_cons]; omega), ?_⟩
          refine ⟨_, rfl, a, C, dx, _, _, rfl, sm _ _ ea, T.cl, T.n5, rfl, _, _, rfl, .inr (same_seqT sm s5), _, _, rfl, rfl, ?_⟩
          rw [l5]
          exact q2
        · refine ifF (decide_eq_false c0) ?_
          rw [show (v :: l).getD 0 0 = v from rfl, decide_eq_false c0, Bool.false_and] at q2
          exact q2
end

/-! ### a comprehension with two fors: the outer turns over any walk -/
theorem lc2_walk {J : It} {n : Nat} {G : Hp → Prop} {Y : Nat → Hp → V → Hp → Prop} (w : Walk J n G Y) {wi1 : TI} {g g1 : TG} {tt tt1 : TT} {te : TE} {vs vs1 : List Nat} {σ : L2.St} {H1 : Hp} {D : Addr} {Qd : Hp → Prop} (Pv : Nat → Hp → Prop) (h0 : Pv 0 (upd H1 D (.lst [])))
    (hG : ∀ i H, i ≤ n → Pv i H → G H) (hs : ∀ i x H H', i < n → Pv i H → Y i H x H' → g x (wipe σ vs) H' fun σ2 H2 => wipe σ2 vs = wipe σ vs ∧ tt σ2 H2 fun b H3 =>
      if b = true then wi1 σ2 H3 fun J1 H4 => ∃ W1 : Nat → Nat → Hp → Prop, (∃ m, W1 0 m H4) ∧ ∀ j k H, W1 j k H →
        (J1.stop j H ∧ Pv (i + 1) H) ∨ (J1.go j H ∧ ∃ Nx1 : Hp → Prop, (∀ H', Nx1 H' → ∃ k', k' < k ∧ W1 (j + 1) k' H') ∧ ∀ x H', J1.yld j H x H' → g1 x (wipe σ2 vs1) H' fun σ3 H5 => wipe σ3 vs1 = wipe σ2 vs1 ∧ tt1 σ3 H5 fun b H6 =>
          if b = true then te σ3 H6 fun y H7 => ∃ acc, H7 D = some (.lst acc) ∧ acc.length < sizeLine ∧ Nx1 (upd H7 D (.lst (acc ++ [y]))) else Nx1 H6)
      else Pv (i + 1) H3) (hd : ∀ H, Pv n H → Qd H) :
    ∃ W : Nat → Nat → Hp → Prop, (∃ m, W 0 m (upd H1 D (.lst []))) ∧ ∀ i m H, W i m H →
      (J.stop i H ∧ Qd H) ∨ (J.go i H ∧ ∃ Nx : Hp → Prop, (∀ H', Nx H' → ∃ m', m' < m ∧ W (i + 1) m' H') ∧ ∀ x H', J.yld i H x H' → g x (wipe σ vs) H' fun σ2 H2 => wipe σ2 vs = wipe σ vs ∧ tt σ2 H2 fun b H3 =>
        if b = true then wi1 σ2 H3 fun J1 H4 => ∃ W1 : Nat → Nat → Hp → Prop, (∃ m, W1 0 m H4) ∧ ∀ j k H, W1 j k H →
          (J1.stop j H ∧ Nx H) ∨ (J1.go j H ∧ ∃ Nx1 : Hp → Prop, (∀ H', Nx1 H' → ∃ k', k' < k ∧ W1 (j + 1) k' H') ∧ ∀ x H', J1.yld j H x H' → g1 x (wipe σ2 vs1) H' fun σ3 H5 => wipe σ3 vs1 = wipe σ2 vs1 ∧ tt1 σ3 H5 fun b H6 =>
            if b = true then te σ3 H6 fun y H7 => ∃ acc, H7 D = some (.lst acc) ∧ acc.length < sizeLine ∧ Nx1 (upd H7 D (.lst (acc ++ [y]))) else Nx1 H6)
        else Nx H3) := by
  refine ⟨fun i m H => m = n - i ∧ i ≤ n ∧ Pv i H, ⟨n, by omega, Nat.zero_le _, h0⟩, ?_⟩
  rintro i m H ⟨rfl, hi, p⟩
  have q := hG i H hi p
  by_cases hlt : i < n
  · exact .inr ⟨w.goes i H hlt q, Pv (i + 1), fun H' p' => ⟨n - (i + 1), by omega, rfl, hlt, p'⟩, fun x H' y => hs i x H H' hlt p (w.yields i H x H' hlt q y)⟩
  · have e : i = n := by omega
    subst e
    exact .inl ⟨w.stops H q, hd H p⟩

/-! ### plans listed -/
def intD (l : List Int) : PyData := .tuple (l.map PyData.int)
theorem noL_int (l : List Int) : noL (intD l) = true := by
  unfold intD
  rw [noL]
  exact noLs_map (fun x => by simp [noL]) l
theorem noL_ints (ls : List (List Int)) : noLs (ls.map intD) = true := noLs_map noL_int ls
theorem intD_eq {K : PySem.W.Frag} {H : Hp} : ∀ {l : List Int} {vs : List V}, DpAll K H vs (l.map PyData.int) → vs = l.map V.int
  | [], _, .nil => rfl
  | _ :: _, _, .cons h t => by
    cases h
    rw [intD_eq t]
    rfl
theorem int_dpa {K : PySem.W.Frag} {H : Hp} : ∀ l : List Int, DpAll K H (l.map V.int) (l.map PyData.int)
  | [] => .nil
  | _ :: l => .cons (.int _) (int_dpa l)
theorem intD_ref {K : PySem.W.Frag} {H : Hp} {v : V} {l : List Int} (h : Dp K H v (intD l)) : ∃ b, v = .ref b ∧ SqT K H b (l.map V.int) := by
  unfold intD at h
  cases h with
  | @tup b xs _ hs hd =>
    have := intD_eq hd
    subst this
    exact ⟨b, rfl, hs⟩
/-- at a a list of the data ds -/
def LstN (K : PySem.W.Frag) (H : Hp) (a : Addr) (ds : List PyData) : Prop := ∃ vs, H a = some (.lst vs) ∧ DpAll K H vs ds
theorem LstN.same {K : PySem.W.Frag} {a : Addr} {H H' : Hp} {ds : List PyData} (h : LstN K H a ds) (s : Same H H') : LstN K H' a ds := by
  obtain ⟨vs, e, d⟩ := h
  exact ⟨vs, s _ _ e, dpa_same s d⟩
theorem LstN.len {K : PySem.W.Frag} {a : Addr} {H : Hp} {ds : List PyData} (h : LstN K H a ds) : ∃ vs, H a = some (.lst vs) ∧ vs.length = ds.length := by
  obtain ⟨vs, e, d⟩ := h
  exact ⟨vs, e, dpa_len d⟩
theorem lstN_step {K : PySem.W.Frag} {D : Addr} {H : Hp} {vs : List V} {ds : List PyData} {v : V} {d : PyData} (hD : H D = some (.lst vs)) (hd : DpAll K H vs ds) (n : noLs ds = true) (hv : Dp K H v d) (n2 : noL d = true) :
    LstN K (upd H D (.lst (vs ++ [v]))) D (ds ++ [d]) :=
  ⟨vs ++ [v], upd_same, dpa_append (dpa_same own_up (dpa_off hD n hd)) (.cons (dp_same own_up (dp_off hD n2 hv)) .nil)⟩
def spAsc (K : PySem.W.Frag) : Sp := fun vs H Q _ => ∃ n : Nat, vs = [.int (n : Nat)] ∧ n ≤ 10 ∧ ∀ (D : Addr) (H' : Hp), Same H H' → LstN K H' D ((ascending n).map intD) → Q (.ref D) H'
def spAllFilled (K : PySem.W.Frag) (C : Addr) : Sp := fun vs H Q _ => ∃ (a : Addr) (h : Hous), vs = [.ref a] ∧ HAt K C H a h ∧ HousOk h ∧ ∀ (D : Addr) (H' : Hp), Same H H' → LstN K H' D ((allFilled h.orders.length).map intD) → Q (.ref D) H'
def spAllRuns (K : PySem.W.Frag) (C : Addr) : Sp := fun vs H Q _ => ∃ (a : Addr) (h : Hous), vs = [.ref a] ∧ HAt K C H a h ∧ HousOk h ∧ ∀ (D : Addr) (H' : Hp), Same H H' → LstN K H' D ((allRuns h.recipes [[]]).map intD) → Q (.ref D) H'
section
variable {P : Program} {w : World} {K : PySem.W.Frag} {mg : Str → Option Value} {base : Heap} {f C : Addr} {fd : FuncData}
theorem ok_ascending_tuples (M : MB mg) (F : FnP K "ascending_tuples" s_ascending_tuples f fd) : FnOk P w K mg base CX0 1 f fd ["count"] (spAsc K) := by
  refine F.ok sc_ascending_tuples (fun vs H Q E h => ?_) (fun cdv A outer s H vs Q E hr h => ⟨_, PSs.nox (pss_cons (ps_set (i := 1) sc_ascending_tuples.nd rfl (.inl rfl) (pe_lst pa_nil))
  (pss_cons (ps_for PassesOwn.never rfl (pi_revR (by rfl) M.reversed (prg_1 (by rfl) M.range (pv 0))) (pg_name (i := 2) sc_ascending_tuples.nd rfl (.inr rfl)) (pss_one (ps_set (i := 1) sc_ascending_tuples.nd rfl (.inl rfl) (pe_op op_cat (pe_op op_cat (pe_lst (pa_cons (pe_tup (pa_cons (pv 2) pa_nil)) pa_nil)) (pe_lc (own := [("behind", 3)]) (g := gName 3) (by rfl) sc_ascending_tuples.nd (pi_list (pv 1)) (blkOk_by (own := [("behind", 3)]) (N := N_ascending_tuples) (sc := defScope s_ascending_tuples) (by decide +kernel)) (fun _ _ _ _ _ => pg_name (i := 3) sc_ascending_tuples.nd rfl (.inl rfl)) (fun _ _ _ _ _ => pts_nil) (fun _ _ _ _ _ => (pe_op (show OpR _ (binaryOp .Add) (rCatA K) from op_catA) (pe_tup (pa_cons (pv 2) pa_nil)) (pv 3))))) (pv 1)))))
  (pss_one (ps_ret (pv 1))))), ?_⟩)
  · obtain ⟨n, rfl, _⟩ := h
    rfl
  · obtain ⟨n, rfl, hn, q⟩ := h
    have hsz := sizeLine_eq
    refine ⟨(by show 0 ≤ sizeLine; omega), fun F0 hF0 => ?_⟩
    refine ⟨_, rfl, _, rfl, by omega, by omega, by omega, by omega, ?_⟩
    refine for_it walk_rangeC (fun i σ H' => ∃ (F1 : Addr) (found : List (List Int)) (z2 z3 : Option V), σ = [some (.int (n : Nat)), some (.ref F1), z2, z3] ∧ Same H H' ∧ LstN K H' F1 (found.map intD) ∧ found.length + 1 ≤ 2 ^ i ∧ (∀ l ∈ found, l.length ≤ i) ∧ ascT n (n - i) found = ascending n) ⟨F0, [], _, _, rfl, same_upd hF0, ⟨[], upd_same, .nil⟩, by decide, (fun _ h => by cases h), rfl⟩ (fun _ _ _ _ _ => trivial) ?_ ?_
    · rintro i x σ H1 H2 hi ⟨F1, found, z2, z3, rfl, s1, ⟨vf, ef, df⟩, bl, hin, go⟩ ⟨rfl, rfl⟩
      have hi2 : i < n := by omega
      have ek : (0 : Int) + ((((n : Int) - 0).toNat : Nat) : Int) - 1 + (i : Int) * -1 = ((n - 1 - i : Nat) : Int) := by omega
      show gName 2 (.int ((0 : Int) + ((((n : Int) - 0).toNat : Nat) : Int) - 1 + (i : Int) * -1)) _ _ _
      rw [ek]
      obtain ⟨k, hk⟩ : ∃ k, n - 1 - i = k := ⟨_, rfl⟩
      rw [hk]
      have hnk : n - i = k + 1 := by omega
      rw [hnk, ascT] at go
      have p10 : 2 ^ i ≤ 1024 := Nat.le_trans (Nat.pow_le_pow_right (by decide) (show i ≤ 10 by omega)) (by decide)
      have lf := dpa_len df
      rw [List.length_map] at lf
      refine ⟨_, rfl, (by show 1 ≤ sizeLine; omega), fun t1 ht1 => ?_⟩
      have s2 := same_upd (o := .tup [.int ((k : Nat) : Int)]) ht1
      refine ⟨(by show 1 ≤ sizeLine; omega), fun L1 hL1 => ?_⟩
      have s3 := s2.trans (same_upd (o := .lst [.ref t1]) hL1)
      have eL : upd (upd H2 t1 (.tup [.int ((k : Nat) : Int)])) L1 (.lst [.ref t1]) L1 = some (.lst [.ref t1]) := upd_same
      have d1 : Dp K (upd (upd H2 t1 (.tup [.int ((k : Nat) : Int)])) L1 (.lst [.ref t1])) (.ref t1) (intD [(k : Int)]) := .tup (.inl (.inl ((same_upd hL1) _ _ upd_same))) (.cons (.int _) .nil)
      generalize upd (upd H2 t1 (.tup [.int ((k : Nat) : Int)])) L1 (.lst [.ref t1]) = H3 at s3 eL d1 ⊢
      clear s2 ht1 hL1
      have ef3 := s3 _ _ ef
      have df3 := dpa_same s3 df
      refine ⟨_, rfl, F1, rfl, ⟨_, .inl (.inl ef3)⟩, fun D hD => ?_⟩
      have nFD : F1 ≠ D := ne_of_none ef3 hD
      refine lc_list (K := K) (a := F1) (xs := vf) (fun j H' => Same H3 H' ∧ LstN K H' D ((found.take j).map fun l => intD ((k : Int) :: l))) ⟨same_upd hD, [], upd_same, .nil⟩ (fun j H' _ h => .inl (.inl (h.1 _ _ ef3))) (fun j x H' hx h => ?_) (fun H' h => ?_)
      · obtain ⟨s4, vs, e4, d4⟩ := h
        obtain ⟨l, hl, dl⟩ := map_get df3 hx
        obtain ⟨b, rfl, hb⟩ := intD_ref dl
        have hl2 := hin l (List.mem_of_getElem? hl)
        have lv := dpa_len d4
        rw [List.length_map, List.length_take] at lv
        refine ⟨rfl, yes_of ?_⟩
        refine ⟨_, rfl, (by show 1 ≤ sizeLine; omega), fun t2 ht2 => ?_⟩
        have s5 := same_upd (o := .tup [.int ((k : Nat) : Int)]) ht2
        have fin : ∀ (v : V) (H6 : Hp), Same H' H6 → Dp K H6 v (intD ((k : Int) :: l)) → ∃ acc, H6 D = some (.lst acc) ∧ acc.length < sizeLine ∧ (Same H3 (upd H6 D (.lst (acc ++ [v]))) ∧ LstN K (upd H6 D (.lst (acc ++ [v]))) D ((found.take (j + 1)).map fun l => intD ((k : Int) :: l))) := by
          intro v H6 s6 dv
          refine ⟨vs, s6 _ _ e4, by omega, same_upd_new (s4.trans s6) hD, ?_⟩
          obtain ⟨hj, he⟩ := List.getElem?_eq_some_iff.mp hl
          rw [List.take_succ_eq_append_getElem hj, he, List.map_append]
          exact lstN_step (s6 _ _ e4) (dpa_same s6 d4) (noLs_map (fun l => noL_int _) _) dv (noL_int _)
        refine ⟨_, rfl, t2, b, [.int ((k : Nat) : Int)], l.map V.int, rfl, rfl, .inl (.inl upd_same), same_seqT (s4.trans s5) hb, by rw [List.length_map]; show 1 + _ ≤ _; omega, (fun z => by cases z), fun _ z => ?_, fun _ _ p hp => ?_⟩
        · have el : l = [] := by simpa using z
          subst el
          exact fin _ _ s5 (.tup (.inl (.inl upd_same)) (.cons (.int _) .nil))
        · refine fin _ _ (s5.trans (same_upd hp)) ?_
          exact .tup (.inl (.inl upd_same)) (.cons (.int _) (int_dpa l))
      · obtain ⟨s4, vs, e4, d4⟩ := h
        have lv := dpa_len d4
        rw [lf, List.take_length] at d4 lv
        rw [List.length_map] at lv
        have eF := s4 _ _ ef3
        refine ⟨L1, D, _, _, rfl, rfl, s4 _ _ eL, e4, by show 1 + _ ≤ _; omega, fun X hX => ?_⟩
        have s5 := same_upd (o := .lst ([.ref t1] ++ vs)) hX
        refine ⟨_, rfl, X, F1, _, _, rfl, rfl, upd_same, s5 _ _ eF, by rw [List.length_append]; show (1 + _) + _ ≤ _; omega, fun Y hY => ?_⟩
        have s6 := s5.trans (same_upd (o := .lst (([.ref t1] ++ vs) ++ vf)) hY)
        refine ⟨Y, ([(k : Int)] :: found.map fun b => (k : Int) :: b) ++ found, _, _, rfl, ((s1.trans s3).trans s4).trans s6, ⟨_, upd_same, ?_⟩, ?_, fun l hl => ?_, ?_⟩
        · rw [List.map_append, List.map_cons, List.map_map]
          exact dpa_append (.cons (dp_same (s4.trans s6) d1) (dpa_same s6 d4)) (dpa_same (s4.trans s6) df3)
        · rw [List.length_append, List.length_cons, List.length_map, Nat.pow_succ]
          omega
        · rcases List.mem_append.mp hl with h | h
          · rcases List.mem_cons.mp h with h | h
            · rw [h]
              show 1 ≤ _
              omega
            · obtain ⟨b, hb, rfl⟩ := List.mem_map.mp h
              have := hin b hb
              rw [List.length_cons]
              omega
          · have := hin l h
            omega
        · have : n - (i + 1) = k := by omega
          rw [this]
          exact go
    · rintro σ H1 ⟨F1, found, z2, z3, rfl, s1, L1, bl, hin, go⟩
      have e0 : n - ((n : Int) - 0).toNat = 0 := by omega
      rw [e0, ascT] at go
      rw [go] at L1
      exact ⟨_, rfl, q F1 H1 s1 L1⟩
end
theorem flat_take {α β : Type} {l : List α} {f : α → List β} {i : Nat} {p : α} (h : l[i]? = some p) : (l.take (i + 1)).flatMap f = (l.take i).flatMap f ++ f p := by
  obtain ⟨hi, he⟩ := List.getElem?_eq_some_iff.mp h
  rw [List.take_succ_eq_append_getElem hi, he, List.flatMap_append]
  simp
theorem flat_le {α β : Type} {f : α → List β} {k : Nat} : ∀ {l : List α}, (∀ a ∈ l, (f a).length ≤ k) → (l.flatMap f).length ≤ k * l.length
  | [], _ => Nat.zero_le _
  | a :: l, h => by
    have h1 := h a List.mem_cons_self
    have h2 := flat_le (l := l) fun b hb => h b (List.mem_cons_of_mem _ hb)
    rw [List.flatMap_cons, List.length_append, List.length_cons, Nat.mul_succ]
    omega
def runsOn (m : Nat) (l : List Int) : List (List Int) := (List.range m).map fun (k : Nat) => l ++ [(k : Int)]
theorem runsOn_len (m : Nat) (l : List Int) : (runsOn m l).length = m := by unfold runsOn; rw [List.length_map, List.length_range]
section
variable {P : Program} {w : World} {K : PySem.W.Frag} {mg : Str → Option Value} {base : Heap} {f C : Addr} {fd : FuncData}
theorem ok__all_filled (T : HouT K mg C) (M : MB mg) (F : FnP K "_all_filled" s__all_filled f fd) (C_ascending_tuples : Callee P w K mg base CX0 "ascending_tuples" ["count"] 1 (spAsc K)) : FnOk P w K mg base CX0 2 f fd ["house"] (spAllFilled K C) := by
  refine F.ok sc__all_filled (fun vs H Q E h => ?_) (fun cdv A outer s H vs Q E hr h => ⟨_, PSs.nox (pss_one (ps_ret (pe_op op_cat (pe_lst (pa_cons (pe_tup pa_nil) pa_nil)) (pe_callC C_ascending_tuples (hr.mono (by first | decide | exact Nat.le_refl _ | omega)) (by rfl) (pa_cons (pe_callB call_len_seq (by rfl) M.len (by decide +kernel) (pa_cons (pe_fld (pv 0) rfl) pa_nil)) pa_nil))))), ?_⟩)
  · obtain ⟨a, h, rfl, _⟩ := h
    rfl
  · obtain ⟨a, h, rfl, ha, ok, q⟩ := h
    have hsz := sizeLine_eq
    obtain ⟨dx, u1, u2, u3, u4, u5, ea, d1, d2, d3, d4, d5⟩ := ha
    cases d5 with
    | @tup a5 x5 _ s5 e5 =>
    have l5 := dpa_len e5
    rw [List.length_map] at l5
    have ho1 := ok.o1
    refine ⟨(by show 0 ≤ sizeLine; omega), fun t0 ht0 => ?_⟩
    have s1 := same_upd (o := .tup []) ht0
    refine ⟨(by show 1 ≤ sizeLine; omega), fun L hL => ?_⟩
    have s2 := s1.trans (same_upd (o := .lst [.ref t0]) hL)
    refine ⟨_, rfl, a, C, dx, _, _, rfl, s2 _ _ ea, T.cl, T.n5, rfl, _, _, rfl, .inr (same_seqT s2 s5), ?_⟩
    rw [l5]
    refine ⟨h.orders.length, rfl, by omega, fun D H2 s3 L2 => ?_⟩
    obtain ⟨vs, e2, d2⟩ := L2
    have lv := dpa_len d2
    have la : (ascending h.orders.length).length ≤ 100 := by
      have : h.orders.length = 0 ∨ h.orders.length = 1 ∨ h.orders.length = 2 ∨ h.orders.length = 3 ∨ h.orders.length = 4 ∨ h.orders.length = 5 := by omega
      rcases this with e | e | e | e | e | e <;> rw [e] <;> decide
    rw [List.length_map] at lv
    refine ⟨L, D, _, _, rfl, rfl, s3 _ _ upd_same, e2, by show 1 + _ ≤ _; omega, fun X hX => ?_⟩
    have sX := s3.trans (same_upd (o := .lst ([.ref t0] ++ vs)) hX)
    refine q X _ (s2.trans sX) ⟨_, upd_same, ?_⟩
    unfold allFilled
    rw [List.map_cons]
    exact .cons (.tup (.inl (.inl (sX _ _ ((same_upd hL) _ _ upd_same)))) .nil) (dpa_same (same_upd hX) d2)
theorem ok__all_runs (T : HouT K mg C) (M : MB mg) (F : FnP K "_all_runs" s__all_runs f fd) : FnOk P w K mg base CX0 1 f fd ["house"] (spAllRuns K C) := by
  refine F.ok sc__all_runs (fun vs H Q E h => ?_) (fun cdv A outer s H vs Q E hr h => ⟨_, PSs.nox (pss_cons (ps_set (i := 1) sc__all_runs.nd rfl (.inl rfl) (pe_lst (pa_cons (pe_tup pa_nil) pa_nil)))
  (pss_cons (ps_for PassesOwn.never rfl (pi_tup (pe_fld (pv 0) rfl)) (pg_name (i := 2) sc__all_runs.nd rfl (.inr rfl)) (pss_one (ps_setLc2 (i := 1) (own := [("runs", 3), ("many", 4)]) (vs1 := [4]) (g := gName 3) (g1 := gName 4) (by rfl) sc__all_runs.nd rfl rfl (sw_true rfl rfl rfl (by decide +kernel)) (pi_list (pv 1)) (blkOk_by (own := [("runs", 3), ("many", 4)]) (N := N__all_runs) (sc := defScope s__all_runs) (by decide +kernel)) (by decide) (fun _ _ _ _ _ => pg_name (i := 3) sc__all_runs.nd rfl (.inl rfl)) (fun _ _ _ _ _ => pts_nil) (fun _ _ _ _ _ => (pi_range1 (by rfl) M.range (pa_cons (pe_op op_add (pe_ix (show IxR _ (rIxT K) from ix_tup) (pv 2) pe_int (fun _ _ => rfl)) pe_int) pa_nil))) (fun _ _ _ _ _ => pg_name (i := 4) sc__all_runs.nd rfl (.inl rfl)) (fun _ _ _ _ _ => pts_nil) (fun _ _ _ _ _ => (pe_op (show OpR _ (binaryOp .Add) (rCatA K) from op_catA) (pv 3) (pe_tup (pa_cons (pv 4) pa_nil)))))))
  (pss_one (ps_ret (pv 1))))), ?_⟩)
  · obtain ⟨a, h, rfl, _⟩ := h
    rfl
  · obtain ⟨a, h, rfl, ha, ok, q⟩ := h
    have hsz := sizeLine_eq
    obtain ⟨dx, u1, u2, u3, u4, u5, ea, d1, d2, d3, d4, d5⟩ := ha
    cases d4 with
    | @tup a4 x4 _ s4 e4 =>
    have l4 := dpa_len e4
    rw [List.length_map] at l4
    have hr1 := ok.r1
    refine ⟨(by show 0 ≤ sizeLine; omega), fun t0 ht0 => ?_⟩
    have s1 := same_upd (o := .tup []) ht0
    refine ⟨(by show 1 ≤ sizeLine; omega), fun L hL => ?_⟩
    have s2 := s1.trans (same_upd (o := .lst [.ref t0]) hL)
    refine ⟨_, rfl, a, C, dx, _, _, rfl, s2 _ _ ea, T.cl, T.n4, rfl, a4, rfl, ⟨_, same_seqT s2 s4⟩, ?_⟩
    refine for_tup (K := K) (a := a4) (xs := x4) (fun i σ H' => ∃ (F1 : Addr) (found : List (List Int)) (z2 z3 z4 : Option V), σ = [some (.ref a), some (.ref F1), z2, z3, z4] ∧ Same H H' ∧ LstN K H' F1 (found.map intD) ∧ found.length ≤ 5 ^ i ∧ (∀ l ∈ found, l.length ≤ i) ∧ allRuns (h.recipes.drop i) found = allRuns h.recipes [[]])
      ⟨L, [[]], _, _, _, rfl, s2, ⟨[.ref t0], upd_same, .cons (.tup (.inl (.inl ((same_upd hL) _ _ upd_same))) .nil) .nil⟩, by decide, fun l hl => by rw [List.mem_singleton.mp hl]; exact Nat.zero_le _, rfl⟩ (fun i σ H' _ x => ?_) ?_ ?_
    · obtain ⟨_, _, _, _, _, _, s5, _⟩ := x
      exact same_seqT s5 s4
    · rintro i x σ H1 hx ⟨F1, found, z2, z3, z4, rfl, s5, ⟨vf, ef, df⟩, bl, hin, go⟩
      obtain ⟨r, hr2, dr⟩ := map_get e4 hx
      have rok := ok.r2 r (List.mem_of_getElem? hr2)
      have hi : i < 3 := by
        have := (List.getElem?_eq_some_iff.mp hr2).1
        omega
      obtain ⟨rb, rnd, rt, rg, rfl, p1, p2, p3, p4⟩ := reci_parts dr
      rw [drop_at hr2, allRuns] at go
      have lf := dpa_len df
      rw [List.length_map] at lf
      have t0' := rok.t0
      have t1' := rok.t1
      have b5 : 5 ^ i ≤ 25 := Nat.le_trans (Nat.pow_le_pow_right (by decide) (show i ≤ 2 by omega)) (by decide)
      obtain ⟨m, hm⟩ : ∃ m, (r.times + 1).toNat = m := ⟨_, rfl⟩
      rw [hm] at go
      refine ⟨_, rfl, F1, rfl, ⟨_, .inl (.inl ef)⟩, fun D hD => ?_⟩
      have hm5 : m ≤ 5 := by omega
      have pre : ∀ j, ((found.take j).flatMap (runsOn m)).length ≤ 125 := fun j => by
        have z := flat_le (f := runsOn m) (k := m) (l := found.take j) (fun l _ => by rw [runsOn_len]; exact Nat.le_refl _)
        have z2 : (found.take j).length ≤ 25 := by rw [List.length_take]; omega
        exact Nat.le_trans z (Nat.le_trans (Nat.mul_le_mul hm5 z2) (by decide))
      refine lc2_walk (walk_list (K := K) (a := F1) (xs := vf)) (fun j H' => Same H1 H' ∧ LstN K H' D (((found.take j).flatMap (runsOn m)).map intD)) ⟨same_upd hD, [], upd_same, .nil⟩ (fun j H' _ x => .inl (.inl (x.1 _ _ ef))) ?_ ?_
      · rintro j x H3 H4 hj ⟨s6, L6⟩ ⟨rfl, hx2⟩
        obtain ⟨l, hl, dl⟩ := map_get df hx2
        obtain ⟨b, rfl, hb⟩ := intD_ref dl
        have hl2 := hin l (List.mem_of_getElem? hl)
        have pj := pre j
        refine ⟨rfl, yes_of ?_⟩
        refine ⟨_, rfl, rb, _, 2, _, rfl, rfl, same_seqT (s5.trans s6) p1, rfl, _, _, rfl, rfl, _, rfl, by omega, by omega, ?_⟩
        refine lc2_in (lo := 0) (n := (r.times + 1).toNat) (fun k H' => Same H1 H' ∧ LstN K H' D ((((found.take j).flatMap (runsOn m)) ++ runsOn k l).map intD)) ⟨s6, by unfold runsOn; rw [List.range_zero, List.map_nil, List.append_nil]; exact L6⟩ ?_ ?_
        · rintro k H5 hk ⟨s7, vs, e7, d7⟩
          have lv := dpa_len d7
          rw [List.length_map, List.length_append, runsOn_len] at lv
          have ez : (0 : Int) + (k : Int) = (k : Int) := Int.zero_add _
          refine ⟨rfl, yes_of ?_⟩
          refine ⟨_, rfl, _, rfl, (by show 1 ≤ sizeLine; omega), fun t2 ht2 => ?_⟩
          have s8 := same_upd (o := .tup [.int ((0 : Int) + (k : Int))]) ht2
          have fin : ∀ (v : V) (H6 : Hp), Same H5 H6 → Dp K H6 v (intD (l ++ [(k : Int)])) → ∃ acc, H6 D = some (.lst acc) ∧ acc.length < sizeLine ∧ (Same H1 (upd H6 D (.lst (acc ++ [v]))) ∧ LstN K (upd H6 D (.lst (acc ++ [v]))) D ((((found.take j).flatMap (runsOn m)) ++ runsOn (k + 1) l).map intD)) := by
            intro v H6 s9 dv
            refine ⟨vs, s9 _ _ e7, by omega, same_upd_new (s7.trans s9) hD, ?_⟩
            have e9 : ((found.take j).flatMap (runsOn m)) ++ runsOn (k + 1) l = (((found.take j).flatMap (runsOn m)) ++ runsOn k l) ++ [l ++ [(k : Int)]] := by
              unfold runsOn
              rw [List.range_succ, List.map_append, List.append_assoc]
              rfl
            rw [e9, List.map_append]
            exact lstN_step (s9 _ _ e7) (dpa_same s9 d7) (noL_ints _) dv (noL_int _)
          refine ⟨b, t2, l.map V.int, [.int ((0 : Int) + (k : Int))], rfl, rfl, same_seqT (s7.trans s8) hb, .inl (.inl upd_same), by rw [List.length_map]; show _ + 1 ≤ _; omega, fun z => ?_, (fun _ z => by cases z), fun _ _ p hp => ?_⟩
          · have el : l = [] := by simpa using z
            subst el
            refine fin _ _ s8 (.tup (.inl (.inl upd_same)) ?_)
            rw [ez]
            exact .cons (.int _) .nil
          · refine fin _ _ (s8.trans (same_upd hp)) (.tup (.inl (.inl upd_same)) ?_)
            rw [ez, List.map_append]
            exact dpa_append (int_dpa l) (.cons (.int _) .nil)
        · rintro H5 ⟨s7, L7⟩
          rw [hm] at L7
          exact ⟨s7, by rw [flat_take hl]; exact L7⟩
      · rintro H5 ⟨s6, L6⟩
        rw [lf, List.take_length] at L6
        have pf := pre found.length
        rw [List.take_length] at pf
        refine ⟨D, found.flatMap (runsOn m), _, _, _, rfl, s5.trans s6, L6, ?_, fun l hl => ?_, go⟩
        · have z := flat_le (f := runsOn m) (k := m) (l := found) (fun l _ => by rw [runsOn_len]; exact Nat.le_refl _)
          rw [Nat.pow_succ, Nat.mul_comm]
          exact Nat.le_trans z (Nat.mul_le_mul hm5 bl)
        · obtain ⟨b, hb, hb2⟩ := List.mem_flatMap.mp hl
          unfold runsOn at hb2
          obtain ⟨k, _, rfl⟩ := List.mem_map.mp hb2
          have := hin b hb
          rw [List.length_append]
          show _ + 1 ≤ _
          omega
    · rintro σ H1 ⟨F1, found, z2, z3, z4, rfl, s5, L1, bl, hin, go⟩
      rw [l4, List.drop_length, allRuns] at go
      rw [go] at L1
      exact ⟨_, rfl, q F1 H1 s5 L1⟩
end

/-! ### the best plan -/
theorem sqT_off {K : PySem.W.Frag} {H : Hp} {D a : Addr} {us xs : List V} (hD : H D = some (.lst us)) (h : SqT K H a xs) : SqT K (cutP H D) a xs := by
  rcases h with (q | ⟨o, q⟩) | q
  · exact .inl (.inl (cutP_at (fun z => by rw [z, hD] at q; cases q) q))
  · exact .inl (.inr ⟨o, cutP_at (fun z => by rw [z, hD] at q; cases q) q⟩)
  · exact .inr q
def FillV (K : PySem.W.Frag) (H : Hp) (D : Addr) (h : Hous) (v : V) (f : List Int) : Prop := ∃ (b fa ta : Addr) (ys : List V), v = .ref b ∧ SqT K H b [.ref fa, .ref ta, .int (payOf h f)] ∧ SqT K H fa (f.map V.int) ∧ ta ≠ D ∧ H ta = some (.lst ys) ∧ DpAll K H ys (amtD (takenL h f))
theorem FillV.same {K : PySem.W.Frag} {H H' : Hp} {D : Addr} {h : Hous} {v : V} {f : List Int} (s : Same H H') (x : FillV K H D h v f) : FillV K H' D h v f := by
  obtain ⟨b, fa, ta, ys, e, h1, h2, h3, h4, h5⟩ := x
  exact ⟨b, fa, ta, ys, e, same_seqT s h1, same_seqT s h2, h3, s _ _ h4, dpa_same s h5⟩
theorem FillV.up {K : PySem.W.Frag} {H : Hp} {D : Addr} {us : List V} {o : HO} {h : Hous} {v : V} {f : List Int} (hD : H D = some (.lst us)) (x : FillV K H D h v f) : FillV K (upd H D o) D h v f := by
  obtain ⟨b, fa, ta, ys, e, h1, h2, h3, h4, h5⟩ := x
  exact ⟨b, fa, ta, ys, e, same_seqT own_up (sqT_off hD h1), same_seqT own_up (sqT_off hD h2), h3, by rw [upd_ne h3]; exact h4, dpa_same own_up (dpa_off hD (noL_tl _) h5)⟩
def FillsV (K : PySem.W.Frag) (H : Hp) (D : Addr) (h : Hous) (vs : List V) (fs : List (List Int)) : Prop := vs.length = fs.length ∧ ∀ (i : Nat) (v : V) (f : List Int), vs[i]? = some v → fs[i]? = some f → FillV K H D h v f
theorem FillsV.step {K : PySem.W.Frag} {H : Hp} {D : Addr} {us : List V} {o : HO} {h : Hous} {vs : List V} {fs : List (List Int)} {v : V} {f : List Int} (hD : H D = some (.lst us)) (x : FillsV K H D h vs fs) (y : FillV K H D h v f) : FillsV K (upd H D o) D h (vs ++ [v]) (fs ++ [f]) := by
  refine ⟨by rw [List.length_append, List.length_append, x.1]; rfl, fun i u g hu hg => ?_⟩
  by_cases c : i < vs.length
  · rw [List.getElem?_append_left c] at hu
    rw [List.getElem?_append_left (by rw [← x.1]; exact c)] at hg
    exact (x.2 i u g hu hg).up hD
  · have hl := x.1
    have e : i = vs.length := by
      have := (List.getElem?_eq_some_iff.mp hu).1
      rw [List.length_append] at this
      have : i < vs.length + 1 := this
      omega
    subst e
    rw [List.getElem?_append_right (Nat.le_refl _), Nat.sub_self] at hu
    rw [hl, List.getElem?_append_right (Nat.le_refl _), Nat.sub_self] at hg
    obtain rfl := Option.some.inj hu
    obtain rfl := Option.some.inj hg
    exact y.up hD
theorem FillsV.same {K : PySem.W.Frag} {H H' : Hp} {D : Addr} {h : Hous} {vs : List V} {fs : List (List Int)} (s : Same H H') (x : FillsV K H D h vs fs) : FillsV K H' D h vs fs := ⟨x.1, fun i v f a b => (x.2 i v f a b).same s⟩
theorem asc_len {hi : Int} : ∀ {l : List Int} {lo : Int}, Asc lo hi l → lo ≤ hi → (l.length : Int) ≤ hi - lo
  | [], _, _, h => by
    show ((0 : Nat) : Int) ≤ _
    omega
  | x :: l, lo, ⟨h1, h2, h3⟩, _ => by
    have z := asc_len h3 (by omega)
    rw [List.length_cons]
    omega
theorem fill_ok {h : Hous} {f : List Int} (ok : h.orders.length ≤ 5) (m : f ∈ allFilled h.orders.length) : FillOk h f := by
  have a := filled_iff.mp m
  refine ⟨?_, fun o ho => asc_mem a o ho⟩
  have := asc_len a (by omega)
  omega
theorem runs_ok {h : Hous} {l : List Int} (ok : HousOk h) (m : l ∈ allRuns h.recipes [[]]) : l.length = h.recipes.length ∧ ∀ r ∈ l, -1000 ≤ r ∧ r ≤ 1000 := by
  have a := runs_iff.mp m
  unfold areRuns at a
  obtain ⟨a1, a2⟩ := Bool.and_eq_true_iff.mp a
  have a1 := of_decide_eq_true a1
  refine ⟨a1, fun r hr => ?_⟩
  obtain ⟨i, hi, e⟩ := List.getElem_of_mem hr
  have hz : (l.zip h.recipes)[i]? = some (r, h.recipes[i]'(by omega)) := by
    rw [List.getElem?_zip_eq_some]
    exact ⟨by rw [List.getElem?_eq_getElem hi, e], List.getElem?_eq_getElem _⟩
  have z := List.all_eq_true.mp a2 _ (List.mem_of_getElem? hz)
  obtain ⟨z1, z2⟩ := Bool.and_eq_true_iff.mp z
  have z1 : 0 ≤ r := of_decide_eq_true z1
  have z2 : r ≤ (h.recipes[i]'(by omega)).times := of_decide_eq_true z2
  have := (ok.r2 _ (List.getElem_mem (show i < h.recipes.length by omega))).t1
  omega
theorem takenL_ix {h : Hous} {f : List Int} : (takenL h f).length = h.goods.length ∧ ∀ p ∈ takenL h f, p.1 < h.goods.length := by
  have z : (takenV h f).length = h.goods.length := by unfold takenV; rw [takenV_len, zeros_len]
  unfold takenL enumV
  refine ⟨by rw [List.length_map, List.length_range, z], fun p hp => ?_⟩
  obtain ⟨i, hi, e⟩ := List.mem_map.mp hp
  subst e
  have := List.mem_range.mp hi
  omega
def bestD (x : Int × List Int × List Int) : PyData := .tuple [.int x.1, .tuple [intD x.2.1, intD x.2.2]]
def BestV (K : PySem.W.Frag) (H : Hp) (v : V) (b : Best) : Prop := (b = none ∧ v = .non) ∨ ∃ (x : Int × List Int × List Int) (c q r s : Addr), b = some x ∧ v = .ref c ∧ SqT K H c [.int x.1, .ref q] ∧ SqT K H q [.ref r, .ref s] ∧ SqT K H r (x.2.1.map V.int) ∧ SqT K H s (x.2.2.map V.int)
theorem BestV.same {K : PySem.W.Frag} {H H' : Hp} {v : V} {b : Best} (z : Same H H') (x : BestV K H v b) : BestV K H' v b := by
  rcases x with x | ⟨x, c, q, r, s, h1, h2, h3, h4, h5, h6⟩
  · exact .inl x
  · exact .inr ⟨x, c, q, r, s, h1, h2, same_seqT z h3, same_seqT z h4, same_seqT z h5, same_seqT z h6⟩
def spBest (K : PySem.W.Frag) (C : Addr) : Sp := fun vs H Q _ => ∃ (a g : Addr) (h : Hous) (gr : List Nat), vs = [.ref a, .ref g] ∧ HAt K C H a h ∧ HousOk h ∧ SqT K H g (natV gr) ∧ gr.length ≤ 1000 ∧ (∀ k ∈ gr, k < h.members.length) ∧
  ∀ (v : V) (H' : Hp), Same H H' → BestV K H' v (bestM h gr) → Q v H'
section
variable {P : Program} {w : World} {K : PySem.W.Frag} {mg : Str → Option Value} {base : Heap} {f C : Addr} {fd : FuncData}
theorem ok_best_plan (T : HouT K mg C) (M : MB mg) (F : FnP K "best_plan" s_best_plan f fd) (C__all_filled : Callee P w K mg base CX0 "_all_filled" ["house"] 2 (spAllFilled K C)) (C__taken : Callee P w K mg base CX0 "_taken" ["house", "filled"] 2 (spTaken K C)) (C__pay : Callee P w K mg base CX0 "_pay" ["house", "filled"] 1 (spPay K C))
    (C__all_runs : Callee P w K mg base CX0 "_all_runs" ["house"] 1 (spAllRuns K C)) (C__stock_after : Callee P w K mg base CX0 "_stock_after" ["house", "group", "runs"] 2 (spAfter K C)) (C__cost : Callee P w K mg base CX0 "_cost" ["house", "runs"] 1 (spCost K C)) (C__has_all : Callee P w K mg base CX0 "_has_all" ["stock", "amounts"] 1 (spHasAll K)) :
    FnOk P w K mg base CX0 3 f fd ["house", "group"] (spBest K C) := by
  refine F.ok sc_best_plan (fun vs H Q E h => ?_) (fun cdv A outer s H vs Q E hr h => ⟨_, PSs.nox (pss_cons (ps_setLc (i := 3) (own := [("filled", 2)]) (g := gName 2) (by rfl) sc_best_plan.nd rfl rfl (sw_true rfl rfl rfl (by decide +kernel)) (pi_list (pe_callC C__all_filled (hr.mono (by first | decide | exact Nat.le_refl _ | omega)) (by rfl) (pa_cons (pv 0) pa_nil))) (blkOk_by (own := [("filled", 2)]) (N := N_best_plan) (sc := defScope s_best_plan) (by decide +kernel)) (fun _ _ _ _ _ => pg_name (i := 2) sc_best_plan.nd rfl (.inl rfl)) (fun _ _ _ _ _ => pts_nil) (fun _ _ _ _ _ => (pe_tup (pa_cons (pv 2) (pa_cons (pe_callC C__taken (hr.mono (by first | decide | exact Nat.le_refl _ | omega)) (by rfl) (pa_cons (pv 0) (pa_cons (pv 2) pa_nil))) (pa_cons (pe_callC C__pay (hr.mono (by first | decide | exact Nat.le_refl _ | omega)) (by rfl) (pa_cons (pv 0) (pa_cons (pv 2) pa_nil))) pa_nil))))))
  (pss_cons (ps_set (i := 4) sc_best_plan.nd rfl (.inl rfl) pe_non)
  (pss_cons (ps_for PassesOwn.never rfl (pi_list (pe_callC C__all_runs (hr.mono (by first | decide | exact Nat.le_refl _ | omega)) (by rfl) (pa_cons (pv 0) pa_nil))) (pg_name (i := 5) sc_best_plan.nd rfl (.inl rfl)) (pss_cons (ps_set (i := 6) sc_best_plan.nd rfl (.inl rfl) (pe_callC C__stock_after (hr.mono (by first | decide | exact Nat.le_refl _ | omega)) (by rfl) (pa_cons (pv 0) (pa_cons (pv 1) (pa_cons (pv 5) pa_nil)))))
  (pss_one (ps_if (pt_cmpR op_notN (pv 6) pe_non (nomark _)) (pss_cons (ps_set (i := 7) sc_best_plan.nd rfl (.inl rfl) (pe_callC C__cost (hr.mono (by first | decide | exact Nat.le_refl _ | omega)) (by rfl) (pa_cons (pv 0) (pa_cons (pv 5) pa_nil))))
  (pss_one (ps_for PassesOwn.never rfl (pi_list (pv 3)) (pg_tup (by rfl) (pgs_cons (pg_name (i := 2) sc_best_plan.nd rfl (.inl rfl)) (pgs_cons (pg_name (i := 8) sc_best_plan.nd rfl (.inl rfl)) (pgs_cons (pg_name (i := 9) sc_best_plan.nd rfl (.inl rfl)) pgs_nil)))) (pss_one (ps_if (PW.pt (pw_and (PW.pt (pw_or (pt_cmpR op_isN (pv 4) pe_non (nomark _)) (pw_or1 (pt_cmpR op_gt (pe_op op_sub (pv 9) (pv 7)) (pe_ix (show IxR _ (rIxT K) from ix_tup) (pv 4) pe_int (fun _ _ => rfl)) (nomark _))))) (pw_and1 (pt_val (pe_callC C__has_all (hr.mono (by first | decide | exact Nat.le_refl _ | omega)) (by rfl) (pa_cons (pv 6) (pa_cons (pv 8) pa_nil))))))) (pss_one (ps_set (i := 4) sc_best_plan.nd rfl (.inl rfl) (pe_tup (pa_cons (pe_op op_sub (pv 9) (pv 7)) (pa_cons (pe_tup (pa_cons (pv 5) (pa_cons (pv 2) pa_nil))) pa_nil))))) pss_nil))))) pss_nil))))
  (pss_one (ps_ret (pv 4)))))), ?_⟩)
  · obtain ⟨a, g, h, gr, rfl, _⟩ := h
    rfl
  · obtain ⟨a, g, h, gr, rfl, ha, ok, hg, hgl, hgm, q⟩ := h
    have hsz := sizeLine_eq
    have ho1 := ok.o1
    refine ⟨_, rfl, ?_⟩
    dsimp only [tNil]
    refine ⟨a, h, rfl, ha, ok, fun L1 H1 s1 LL => ?_⟩
    obtain ⟨vf, ef, df⟩ := LL
    have lf := dpa_len df
    rw [List.length_map] at lf
    have lfb : (allFilled h.orders.length).length ≤ 100 := by
      have : h.orders.length = 0 ∨ h.orders.length = 1 ∨ h.orders.length = 2 ∨ h.orders.length = 3 ∨ h.orders.length = 4 ∨ h.orders.length = 5 := by omega
      rcases this with e | e | e | e | e | e <;> rw [e] <;> decide
    refine ⟨L1, rfl, ⟨_, .inl (.inl ef)⟩, fun D hD => ?_⟩
    refine lc_list (K := K) (a := L1) (xs := vf) (fun j H' => Same H1 H' ∧ ∃ acc, H' D = some (.lst acc) ∧ FillsV K H' D h acc ((allFilled h.orders.length).take j)) ⟨same_upd hD, [], upd_same, rfl, fun i v f e _ => by cases e⟩ (fun j H' _ x => .inl (.inl (x.1 _ _ ef))) (fun j x H' hx x2 => ?_) (fun H' x2 => ?_)
    · obtain ⟨s2, acc, eA, fA⟩ := x2
      obtain ⟨fl, hfl, dfl⟩ := map_get df hx
      obtain ⟨fa, rfl, hfa⟩ := intD_ref dfl
      have fok := fill_ok ho1 (List.mem_of_getElem? hfl)
      refine ⟨rfl, yes_of ?_⟩
      refine ⟨_, rfl, _, rfl, _, rfl, ?_⟩
      dsimp only [tNil]
      refine ⟨a, fa, h, fl, rfl, ha.same (s1.trans s2), ok, same_seqT s2 hfa, fok, fun ta H3 ys nT s3 eT dT => ?_⟩
      refine ⟨_, rfl, _, rfl, ?_⟩
      dsimp only [tNil]
      have s23 := s2.trans s3
      refine ⟨a, fa, h, fl, rfl, ha.same (s1.trans s23), same_seqT s23 hfa, fok, fun H4 s4 => ?_⟩
      have s24 := s23.trans s4
      refine ⟨(by show 3 ≤ sizeLine; omega), fun b hb => ?_⟩
      have s25 := s24.trans (same_upd (o := .tup [.ref fa, .ref ta, .int (payOf h fl)]) hb)
      have sU : Same H' (upd H4 b (.tup [.ref fa, .ref ta, .int (payOf h fl)])) := (s3.trans s4).trans (same_upd hb)
      have eD := sU _ _ eA
      refine ⟨acc, eD, by rw [fA.1, List.length_take]; omega, same_upd_new s25 hD, _, upd_same, ?_⟩
      obtain ⟨hj, he⟩ := List.getElem?_eq_some_iff.mp hfl
      rw [List.take_succ_eq_append_getElem hj, he]
      refine FillsV.step eD (fA.same sU) ⟨b, fa, ta, ys, rfl, .inl (.inl upd_same), same_seqT s25 hfa, (ne_of_none eA nT).symm, ?_, ?_⟩
      · exact (s4.trans (same_upd hb)) _ _ eT
      · exact dpa_same (s4.trans (same_upd hb)) dT
    · obtain ⟨s2, acc, eA, fA⟩ := x2
      rw [lf, List.take_length] at fA
      have s2 := s1.trans s2
      refine ⟨_, rfl, ?_⟩
      dsimp only [tNil]
      refine ⟨a, h, rfl, ha.same s2, ok, fun L2 H3 s3 LL => ?_⟩
      obtain ⟨vr, er, dr⟩ := LL
      have s3' := s2.trans s3
      have eA3 := s3 _ _ eA
      have fA3 := fA.same s3
      clear s3 eA fA
      have lr := dpa_len dr
      rw [List.length_map] at lr
      refine ⟨L2, rfl, ⟨_, .inl (.inl er)⟩, ?_⟩
      refine for_list (D := { nx := fun σ H' => ∃ v, σ[4]? = some (some v) ∧ Q v H', rt := Q }) (K := K) (a := L2) (xs := vr) (fun i σ H' => ∃ (bv : V) (z2 z5 z6 z7 z8 z9 : Option V), σ = [some (.ref a), some (.ref g), z2, some (.ref D), some bv, z5, z6, z7, z8, z9] ∧ Same H3 H' ∧ BestV K H' bv (((allRuns h.recipes [[]]).take i).foldl (pickRuns h gr) none)) ⟨.non, _, _, _, _, _, _, rfl, fun _ _ e => e, .inl ⟨rfl, rfl⟩⟩ (fun i σ H' _ x => ?_) ?_ ?_
      · obtain ⟨_, _, _, _, _, _, _, _, s4, _⟩ := x
        exact .inl (.inl (s4 _ _ er))
      · rintro i x σ H4 hx ⟨bv, z2, z5, z6, z7, z8, z9, rfl, s4, bb⟩
        obtain ⟨l, hl, dl⟩ := map_get dr hx
        obtain ⟨rb, rfl, hrb⟩ := intD_ref dl
        obtain ⟨rl, rbd⟩ := runs_ok ok (List.mem_of_getElem? hl)
        have hr1 := ok.r1
        have sH := s3'.trans s4
        have c0 : ∀ b, stockAfter h gr l = none → pickRuns h gr b l = b := fun b e => by unfold pickRuns; rw [e]
        have c1 : ∀ b st, stockAfter h gr l = some st → pickRuns h gr b l = (fillings h).foldl (pick l st (costOf h l)) b := fun b st e => by unfold pickRuns; rw [e]
        refine ⟨_, rfl, _, rfl, _, rfl, ?_⟩
        dsimp only [tNil]
        refine ⟨a, g, rb, h, gr, l, rfl, ha.same sH, ok, same_seqT sH hg, hgl, hgm, same_seqT s4 hrb, rbd, fun e H5 s5 => ?_, fun st e ls S H5 hS s5 eS => ?_⟩
        · refine ⟨_, rfl, rfl, _, rfl, ?_⟩
          refine ifF (by simp) ?_
          refine ⟨bv, _, _, _, _, _, _, rfl, s4.trans s5, ?_⟩
          rw [foldl_take hl, c0 _ e]
          exact bb.same s5
        · refine ⟨_, rfl, rfl, _, rfl, ?_⟩
          refine ifT (by simp) ?_
          refine ⟨_, rfl, _, rfl, ?_⟩
          dsimp only [tNil]
          have sH5 := sH.trans s5
          refine ⟨a, rb, h, l, rfl, ha.same sH5, ok, same_seqT (s4.trans s5) hrb, by omega, fun H6 s6 => ?_⟩
          have s56 := s4.trans (s5.trans s6)
          have eS6 := s6 _ _ eS
          have eA6 := s56 _ _ eA3
          have fA6 := fA3.same s56
          have hrb6 := same_seqT s56 hrb
          have bb6 := bb.same (s5.trans s6)
          generalize hB : List.foldl (pickRuns h gr) none ((allRuns h.recipes [[]]).take i) = B0 at bb6
          have B1 : List.foldl (pickRuns h gr) none ((allRuns h.recipes [[]]).take (i + 1)) = (fillings h).foldl (pick l st (costOf h l)) B0 := by
            rw [foldl_take hl, hB, c1 _ _ e]
          have lA := fA6.1
          have lF : (fillings h).length = (allFilled h.orders.length).length := by unfold fillings; rw [List.length_map]
          refine ⟨_, rfl, D, rfl, ⟨_, .inl (.inl eA6)⟩, ?_⟩
          refine for_list (K := K) (a := D) (xs := acc) (fun j σ H' => ∃ (bv : V) (z2 z8 z9 : Option V), σ = [some (.ref a), some (.ref g), z2, some (.ref D), some bv, some (.ref rb), some (.ref S), some (.int (costOf h l)), z8, z9] ∧ Same H6 H' ∧ BestV K H' bv (((fillings h).take j).foldl (pick l st (costOf h l)) B0)) ⟨bv, _, _, _, rfl, fun _ _ e => e, bb6⟩ (fun j σ H' _ x => ?_) ?_ ?_
          · obtain ⟨_, _, _, _, _, s7, _⟩ := x
            exact .inl (.inl (s7 _ _ eA6))
          · rintro j x σ H8 hx ⟨bw, z2, z8, z9, rfl, s8, bj⟩
            have hj : j < (allFilled h.orders.length).length := by
              have := (List.getElem?_eq_some_iff.mp hx).1
              omega
            obtain ⟨f, hf⟩ : ∃ f, (allFilled h.orders.length)[j]? = some f := ⟨_, List.getElem?_eq_getElem hj⟩
            obtain ⟨b, fa, ta, ys, rfl, h1, h2, h3, h4, h5⟩ := fA6.2 j x f hx hf
            have hF : (fillings h)[j]? = some (f, takenL h f, payOf h f) := by unfold fillings; rw [List.getElem?_map, hf]; rfl
            have fo := foldl_take (f := pick l st (costOf h l)) (b := B0) hF
            generalize List.foldl (pick l st (costOf h l)) B0 ((fillings h).take j) = B at fo bj
            refine ⟨b, _, rfl, same_seqT s8 h1, rfl, _, _, rfl, _, _, rfl, _, _, rfl, rfl, ?_⟩
            rw [fo]
            have h4' := s8 _ _ h4
            have h2 := same_seqT s8 h2
            have hrb' := same_seqT s8 hrb6
            have hg1 := ok.g1
            rcases bj with ⟨rfl, rfl⟩ | ⟨x, c, q1, r1, t1, rfl, rfl, k1, k2, k3, k4⟩
            · refine ⟨_, rfl, rfl, _, rfl, ?_⟩
              refine ifT (by simp) ?_
              refine ifT rfl ?_
              have bj : BestV K H8 .non none := .inl ⟨rfl, rfl⟩
              refine ⟨_, rfl, _, rfl, ?_⟩
              dsimp only [tNil]
              refine ⟨S, ta, st, ys, takenL h f, rfl, .inl (.inl (s8 _ _ eS6)), .inl (.inl (.inl h4')), dpa_same s8 h5, fun p hp => by rw [ls]; exact takenL_ix.2 p hp, by rw [takenL_ix.1]; omega, fun H9 s9 => ⟨_, rfl, ?_⟩⟩
              have s10 := s8.trans s9
              cases hc : hasAll st (takenL h f) with
              | true =>
                refine ifT rfl ?_
                refine ⟨_, rfl, _, rfl, _, _, rfl, rfl, _, rfl, _, rfl, (by show 2 ≤ sizeLine; omega), fun q1 hq1 => ?_⟩
                refine ⟨(by show 2 ≤ sizeLine; omega), fun q2 hq2 => ?_⟩
                have s11 := (s10.trans (same_upd (o := .tup [.ref rb, .ref fa]) hq1)).trans (same_upd (o := .tup [.int (payOf h f - costOf h l), .ref q1]) hq2)
                refine ⟨_, _, _, _, rfl, s11, ?_⟩
                have e : pick l st (costOf h l) none (f, takenL h f, payOf h f) = some (payOf h f - costOf h l, l, f) := by
                  unfold pick
                  rw [show better none (payOf h f - costOf h l) = true from rfl, hc]
                  rfl
                rw [e]
                exact .inr ⟨_, q2, q1, rb, fa, rfl, rfl, .inl (.inl upd_same), .inl (.inl ((same_upd hq2) _ _ upd_same)), same_seqT ((s9.trans (same_upd hq1)).trans (same_upd hq2)) hrb', same_seqT ((s9.trans (same_upd hq1)).trans (same_upd hq2)) h2⟩
              | false =>
                refine ifF rfl ?_
                refine ⟨_, _, _, _, rfl, s10, ?_⟩
                have e : pick l st (costOf h l) none (f, takenL h f, payOf h f) = none := by
                  unfold pick
                  rw [hc, Bool.and_false]
                  rfl
                rw [e]
                exact bj.same s9
            · refine ⟨_, rfl, rfl, _, rfl, ?_⟩
              refine ifF (by simp) ?_
              have bj : BestV K H8 (.ref c) (some x) := .inr ⟨x, c, q1, r1, t1, rfl, rfl, k1, k2, k3, k4⟩
              refine ⟨_, rfl, _, rfl, _, _, rfl, rfl, _, rfl, c, _, 0, _, rfl, rfl, k1, rfl, _, _, rfl, rfl, _, rfl, ?_⟩
              by_cases cb : x.1 < payOf h f - costOf h l
              · refine ifT (decide_eq_true cb) ?_
                refine ⟨_, rfl, _, rfl, ?_⟩
                dsimp only [tNil]
                refine ⟨S, ta, st, ys, takenL h f, rfl, .inl (.inl (s8 _ _ eS6)), .inl (.inl (.inl h4')), dpa_same s8 h5, fun p hp => by rw [ls]; exact takenL_ix.2 p hp, by rw [takenL_ix.1]; omega, fun H9 s9 => ⟨_, rfl, ?_⟩⟩
                have s10 := s8.trans s9
                cases hc : hasAll st (takenL h f) with
                | true =>
                  refine ifT rfl ?_
                  refine ⟨_, rfl, _, rfl, _, _, rfl, rfl, _, rfl, _, rfl, (by show 2 ≤ sizeLine; omega), fun q1 hq1 => ?_⟩
                  refine ⟨(by show 2 ≤ sizeLine; omega), fun q2 hq2 => ?_⟩
                  have s11 := (s10.trans (same_upd (o := .tup [.ref rb, .ref fa]) hq1)).trans (same_upd (o := .tup [.int (payOf h f - costOf h l), .ref q1]) hq2)
                  refine ⟨_, _, _, _, rfl, s11, ?_⟩
                  have e : pick l st (costOf h l) (some x) (f, takenL h f, payOf h f) = some (payOf h f - costOf h l, l, f) := by
                    unfold pick
                    rw [show better (some x) (payOf h f - costOf h l) = true from decide_eq_true cb, hc]
                    rfl
                  rw [e]
                  exact .inr ⟨_, q2, q1, rb, fa, rfl, rfl, .inl (.inl upd_same), .inl (.inl ((same_upd hq2) _ _ upd_same)), same_seqT ((s9.trans (same_upd hq1)).trans (same_upd hq2)) hrb', same_seqT ((s9.trans (same_upd hq1)).trans (same_upd hq2)) h2⟩
                | false =>
                  refine ifF rfl ?_
                  refine ⟨_, _, _, _, rfl, s10, ?_⟩
                  have e : pick l st (costOf h l) (some x) (f, takenL h f, payOf h f) = (some x) := by
                    unfold pick
                    rw [hc, Bool.and_false]
                    rfl
                  rw [e]
                  exact bj.same s9
              · refine ifF (decide_eq_false cb) ?_
                refine ⟨_, _, _, _, rfl, s8, ?_⟩
                have e : pick l st (costOf h l) (some x) (f, takenL h f, payOf h f) = some x := by
                  unfold pick
                  rw [show better (some x) (payOf h f - costOf h l) = false from decide_eq_false cb]
                  rfl
                rw [e]
                exact bj
          · rintro σ H8 ⟨bw, z2, z8, z9, rfl, s8, bj⟩
            rw [lA, ← lF, List.take_length, ← B1] at bj
            exact ⟨_, _, _, _, _, _, _, rfl, s56.trans s8, bj⟩
      · rintro σ H4 ⟨bv, z2, z5, z6, z7, z8, z9, rfl, s4, bb⟩
        rw [lr, List.take_length] at bb
        exact ⟨_, rfl, q bv H4 (s3'.trans s4) bb⟩
end

/-! ### what a plan earns -/
def spEarned (K : PySem.W.Frag) (C : Addr) : Sp := fun vs H Q _ => ∃ (a g pl rn fl : Addr) (h : Hous) (gr : List Nat) (runs fv : List Int), vs = [.ref a, .ref g, .ref pl] ∧ HAt K C H a h ∧ HousOk h ∧ SqT K H g (natV gr) ∧ gr.length ≤ 1000 ∧ (∀ k ∈ gr, k < h.members.length) ∧
  SqT K H pl [.ref rn, .ref fl] ∧ SqT K H rn (runs.map V.int) ∧ SqT K H fl (fv.map V.int) ∧ runs ∈ allRuns h.recipes [[]] ∧ fv ∈ allFilled h.orders.length ∧
  ∀ H', Same H H' → (earnM h gr runs fv = none → Q .non H') ∧ ∀ n, earnM h gr runs fv = some n → Q (.int n) H'
section
variable {P : Program} {w : World} {K : PySem.W.Frag} {mg : Str → Option Value} {base : Heap} {f C : Addr} {fd : FuncData}
theorem ok_earned (T : HouT K mg C) (M : MB mg) (F : FnP K "earned" s_earned f fd) (C__are_runs : Callee P w K mg base CX0 "_are_runs" ["house", "runs"] 1 (spAreRuns K C)) (C__are_filled : Callee P w K mg base CX0 "_are_filled" ["house", "filled"] 1 (spAreFilled K C)) (C__taken : Callee P w K mg base CX0 "_taken" ["house", "filled"] 2 (spTaken K C)) (C__pay : Callee P w K mg base CX0 "_pay" ["house", "filled"] 1 (spPay K C))
    (C__stock_after : Callee P w K mg base CX0 "_stock_after" ["house", "group", "runs"] 2 (spAfter K C)) (C__cost : Callee P w K mg base CX0 "_cost" ["house", "runs"] 1 (spCost K C)) (C__has_all : Callee P w K mg base CX0 "_has_all" ["stock", "amounts"] 1 (spHasAll K)) :
    FnOk P w K mg base CX0 3 f fd ["house", "group", "plan"] (spEarned K C) := by
  refine F.ok sc_earned (fun vs H Q E h => ?_) (fun cdv A outer s H vs Q E hr h => ⟨_, PSs.nox (pss_cons (ps_asg (pv 2) (pg_tup (by rfl) (pgs_cons (pg_name (i := 3) sc_earned.nd rfl (.inl rfl)) (pgs_cons (pg_name (i := 4) sc_earned.nd rfl (.inl rfl)) pgs_nil))))
  (pss_cons (ps_if (PW.pt (pw_or (pt_not (pt_val (pe_callC C__are_runs (hr.mono (by first | decide | exact Nat.le_refl _ | omega)) (by rfl) (pa_cons (pv 0) (pa_cons (pv 3) pa_nil))))) (pw_or1 (pt_not (pt_val (pe_callC C__are_filled (hr.mono (by first | decide | exact Nat.le_refl _ | omega)) (by rfl) (pa_cons (pv 0) (pa_cons (pv 4) pa_nil)))))))) (pss_one (ps_ret pe_non)) pss_nil)
  (pss_cons (ps_set (i := 5) sc_earned.nd rfl (.inl rfl) (pe_callC C__stock_after (hr.mono (by first | decide | exact Nat.le_refl _ | omega)) (by rfl) (pa_cons (pv 0) (pa_cons (pv 1) (pa_cons (pv 3) pa_nil)))))
  (pss_cons (ps_if (PW.pt (pw_or (pt_cmpR op_isN (pv 5) pe_non (nomark _)) (pw_or1 (pt_not (pt_val (pe_callC C__has_all (hr.mono (by first | decide | exact Nat.le_refl _ | omega)) (by rfl) (pa_cons (pv 5) (pa_cons (pe_callC C__taken (hr.mono (by first | decide | exact Nat.le_refl _ | omega)) (by rfl) (pa_cons (pv 0) (pa_cons (pv 4) pa_nil))) pa_nil)))))))) (pss_one (ps_ret pe_non)) pss_nil)
  (pss_one (ps_ret (pe_op op_sub (pe_callC C__pay (hr.mono (by first | decide | exact Nat.le_refl _ | omega)) (by rfl) (pa_cons (pv 0) (pa_cons (pv 4) pa_nil))) (pe_callC C__cost (hr.mono (by first | decide | exact Nat.le_refl _ | omega)) (by rfl) (pa_cons (pv 0) (pa_cons (pv 3) pa_nil)))))))))), ?_⟩)
  · obtain ⟨a, g, pl, rn, fl, h, gr, runs, fv, rfl, _⟩ := h
    rfl
  · obtain ⟨a, g, pl, rn, fl, h, gr, runs, fv, rfl, ha, ok, hg, hgl, hgm, hp, hrn, hfl, mr, mf, q⟩ := h
    have hsz := sizeLine_eq
    have hr1 := ok.r1
    have hg1 := ok.g1
    obtain ⟨rl, rbd⟩ := runs_ok ok mr
    have fok := fill_ok ok.o1 mf
    have ar := runs_iff.mp mr
    have af := filled_ok mf
    refine ⟨_, rfl, pl, _, rfl, hp, rfl, _, _, rfl, _, _, rfl, rfl, ?_⟩
    refine ⟨_, rfl, _, rfl, ?_⟩
    dsimp only [tNil]
    refine ⟨a, rn, h, runs, rfl, ha, ok, hrn, by omega, fun H1 s1 => ⟨_, rfl, ?_⟩⟩
    refine ifF (by rw [ar]; rfl) ?_
    refine ⟨_, rfl, _, rfl, ?_⟩
    dsimp only [tNil]
    refine ⟨a, fl, h, fv, rfl, ha.same s1, ok, same_seqT s1 hfl, fok.1, fun H2 s2 => ⟨_, rfl, ?_⟩⟩
    refine ifF (by rw [af]; rfl) ?_
    have s12 := s1.trans s2
    refine ⟨_, rfl, _, rfl, _, rfl, ?_⟩
    dsimp only [tNil]
    unfold earnM at q
    rw [if_pos ⟨ar, af⟩] at q
    refine ⟨a, g, rn, h, gr, runs, rfl, ha.same s12, ok, same_seqT s12 hg, hgl, hgm, same_seqT s12 hrn, rbd, fun e H5 s5 => ?_, fun st e ls S H5 hS s5 eS => ?_⟩
    · refine ⟨_, rfl, rfl, _, rfl, ?_⟩
      refine ifT (by simp) ?_
      refine ifT rfl ?_
      exact (q H5 (s12.trans s5)).1 (by rw [e])
    · have s15 := s12.trans s5
      rw [e] at q
      refine ⟨_, rfl, rfl, _, rfl, ?_⟩
      refine ifF (by simp) ?_
      refine ⟨_, rfl, _, rfl, _, rfl, ?_⟩
      dsimp only [tNil]
      refine ⟨a, fl, h, fv, rfl, ha.same s15, ok, same_seqT s15 hfl, fok, fun ta H6 ys nT s6 eT dT => ?_⟩
      refine ⟨S, ta, st, ys, takenL h fv, rfl, .inl (.inl (s6 _ _ eS)), .inl (.inl (.inl eT)), dT, fun p hp => by rw [ls]; exact takenL_ix.2 p hp, by rw [takenL_ix.1]; omega, fun H7 s7 => ⟨_, rfl, ?_⟩⟩
      have s17 := (s15.trans s6).trans s7
      cases hc : hasAll st (takenL h fv) with
      | false =>
        refine ifT rfl ?_
        exact (q H7 s17).1 (by show (if hasAll st (takenL h fv) = true then _ else _) = _; rw [if_neg (by rw [hc]; exact Bool.false_ne_true)])
      | true =>
      refine ifF rfl ?_
      refine ⟨_, rfl, _, rfl, ?_⟩
      dsimp only [tNil]
      refine ⟨a, fl, h, fv, rfl, ha.same s17, same_seqT s17 hfl, fok, fun H8 s8 => ?_⟩
      refine ⟨_, rfl, _, rfl, ?_⟩
      dsimp only [tNil]
      have s18 := s17.trans s8
      refine ⟨a, rn, h, runs, rfl, ha.same s18, ok, same_seqT s18 hrn, by omega, fun H9 s9 => ?_⟩
      refine ⟨_, _, rfl, rfl, ?_⟩
      exact (q H9 (s18.trans s9)).2 _ (by show (if hasAll st (takenL h fv) = true then _ else _) = _; rw [if_pos hc])
end

/-! ### an own class's methods, operators, making -/
structure MethF (P : Program) (w : World) (K : PySem.W.Frag) (mg : Str → Option Value) (base : Heap) (CX : CXT) (C : Addr) (m : Str) (k : Nat) (sp : Sp) : Prop where
  ex : ∃ g, PySem.W.findIn K (.ref C) m = some (some (.ref g)) ∧ PySem.W.isFn K (.ref g) = true ∧ FnR P w K mg base CX k g sp
/-- x op y by the class's own def, both instances of the class -/
def rOwnB (C : Addr) (sp : Sp) (E : XK) : R2 := fun x y H Q => ∃ a b dx fs dy gs, x = .ref a ∧ y = .ref b ∧ H a = some (.ins C dx fs) ∧ H b = some (.ins C dy gs) ∧ sp [x, y] H Q E
section
variable {X : Cx} {CX : CXT} {k : Nat} {C : Addr} {sp : Sp} {E : XK}
theorem op_bin {op : Operator} (hc : PySem.W.selfFirst X.K C = true) (M : MethF X.prog X.w X.K X.mg X.base CX C (PySem.dunder op.info.2) k sp) (hr : Room k X.A) (hx : Passes CX X E) : OpR X (binaryOp op) (rOwnB C sp E) := by
  intro pins s σ H x y v u Q I rx ry h
  obtain ⟨a, b, dx, fs, dy, gs, rfl, rfl, ha, hb, q⟩ := h
  obtain ⟨g, hs, hf, F⟩ := M.ex
  cases (show v = Value.ref a from rx)
  cases (show u = Value.ref b from ry)
  obtain ⟨mA, O, _⟩ := ins_get I.hok ha
  obtain ⟨od, J, _⟩ := O.look
  obtain ⟨mB, O', _⟩ := ins_get I.hok hb
  obtain ⟨od', J', _⟩ := O'.look
  obtain ⟨m, hF⟩ := I.fr
  refine PySem.W.binop_K hF I.ok.mod.kin J J'.type hc hs hf ?_
  refine wpAny_mono (wpAny_call (run_fnR (us := [.ref a, .ref b]) (vs := [.ref a, .ref b]) F hr hx I (.cons rfl (.cons rfl .nil)) q)) (fun w s' z => ?_) fun _ _ x => x
  obtain ⟨z', H', I', rz, qz⟩ := z
  exact SlX.cmpback rz ⟨z', H', I', rz, qz⟩
theorem op_eqO (hn : PySem.W.notFirst X.K C (.ref C) = true) (M : MethF X.prog X.w X.K X.mg X.base CX C "__eq__" k sp) (hr : Room k X.A) (hx : Passes CX X E) : OpR X (compareOp .Eq) (rOwnB C sp E) := by
  intro pins s σ H x y v u Q I rx ry h
  obtain ⟨a, b, dx, fs, dy, gs, rfl, rfl, ha, hb, q⟩ := h
  obtain ⟨g, hs, hf, F⟩ := M.ex
  cases (show v = Value.ref a from rx)
  cases (show u = Value.ref b from ry)
  obtain ⟨mA, O, _⟩ := ins_get I.hok ha
  obtain ⟨od, J, _⟩ := O.look
  obtain ⟨mB, O', _⟩ := ins_get I.hok hb
  obtain ⟨od', J', _⟩ := O'.look
  obtain ⟨m, hF⟩ := I.fr
  rw [show compareOp .Eq (.ref a) (.ref b) = richCompare .Eq (.ref a) (.ref b) from rfl]
  refine PySem.W.cmp_K (op := .Eq) hr.units0 hF I.ok.mod.kin J J'.type hn hs hf ?_
  refine wpAny_mono (wpAny_call (run_fnR (us := [.ref a, .ref b]) (vs := [.ref a, .ref b]) F hr hx I (.cons rfl (.cons rfl .nil)) q)) (fun w s' z => ?_) fun _ _ x => x
  obtain ⟨z', H', I', rz, qz⟩ := z
  exact SlX.cmpback rz ⟨z', H', I', rz, qz⟩
def rStrO (C : Addr) (sp : Sp) (E : XK) : List V → Hp → VK → Prop := fun xs H Q => ∃ a dx fs, xs = [.ref a] ∧ H a = some (.ins C dx fs) ∧ sp [.ref a] H (fun z H' => ∃ y, z = .str y ∧ Q z H') E
/-- str(x) by the class's own __str__ -/
theorem call_strO (M : MethF X.prog X.w X.K X.mg X.base CX C "__str__" k sp) (hr : Room (k + 2) X.A) (hx : Passes CX X E) : CallR X (.type "str") (rStrO C sp E) := by
  intro pins s σ H xs us Q I r h
  obtain ⟨a, dx, fs, rfl, ha, q⟩ := h
  obtain ⟨g, hs, hf, F⟩ := M.ex
  obtain ⟨u, rfl, ru⟩ := r.one
  cases (show u = Value.ref a from ru)
  obtain ⟨mA, O, _⟩ := ins_get I.hok ha
  obtain ⟨od, J, _⟩ := O.look
  have hr2 : Room k X.A.in1.in1 := (show Room (k + 1) X.A.in1 from Room.in1 hr).in1
  refine PySem.W.kso_call hr2.units0 I.kIn J hs hf (wpAny_mono (wpAny_call (SlX.run_at (us := [.ref a]) (ws := [.ref a]) (fun A outer s H us vs Q E hr e0 rr hsp => F A outer s H us vs Q E hr e0 rr hsp) hr2 I.env0.in1.in1 hx I (.cons rfl .nil) q)) (fun w s' z => ?_) fun _ _ x => x)
  obtain ⟨z', H', I', rz, y, ey, qz⟩ := z
  subst ey
  obtain ⟨t, e⟩ := (show ∃ t, w = Value.str y t from rz)
  cases e
  exact ⟨.str y, H', I', ⟨t, rfl⟩, qz⟩
end
/-- C(e, ..) -/
structure MakeF (P : Program) (w : World) (K : PySem.W.Frag) (mg : Str → Option Value) (base : Heap) (CX : CXT) (x : Str) (C : Addr) (ps : List Str) (dvs : List V) (k : Nat) (sp : Sp) : Prop where
  g : mg x = some (.ref C)
  ex : ∃ f fd ds, Mk K C f ∧ Vals dvs ds ∧ Binds K fd ps ds ∧ FnOk P w K mg base CX k f fd ps sp
structure MethC (P : Program) (w : World) (K : PySem.W.Frag) (mg : Str → Option Value) (base : Heap) (CX : CXT) (C : Addr) (m : Str) (ps : List Str) (k : Nat) (sp : Sp) : Prop where
  cl : Cls K C
  ex : ∃ f fd, Meth K C m f ∧ Binds K fd ps [] ∧ FnOk P w K mg base CX k f fd ps sp
section
variable {X : Cx} {CX : CXT} {k : Nat} {C : Addr} {ps : List Str} {dvs : List V} {sp : Sp} {E : XK} {x m : Str} {p pos apos : Pos} {e o : Expr} {es : List Expr} {ta : TE} {t : TA}
theorem pe_makeX (M : MakeF X.prog X.w X.K X.mg X.base CX x C ps dvs k sp) (hr : Room (k + 1) X.A) (hg : Gl X x) (hx : Passes CX X E) (ha : PA X (e :: es) t) (hdb : (x == ("__debug__" : Str)) = false := by decide)
    (he : starEach (e :: es) X.env = (false, eval e X.env) :: starEach es X.env := by rfl) (hpl : (backTo pos (starEach es X.env)).any (·.1) = false := by rfl) :
    PE X (.Call (.Name x p) (e :: es) [] pos) (tMake C sp dvs E t) := by
  obtain ⟨f, fd, ds, h1, h2, h3, h4⟩ := M.ex
  exact pe_make h1 h4 hr hg M.g h3 h2 hx ha hdb he hpl
theorem pe_methX {pl : Sem Bool} (M : MethC X.prog X.w X.K X.mg X.base CX C m ps k sp) (hr : Room k X.A) (hx : Passes CX X E) (he : PE X o ta) (ha : PA X (e :: es) t)
    (hst : starEach (e :: es) X.env = (false, eval e X.env) :: starEach es X.env := by rfl) (hpl : (backTo pos (starEach es X.env)).any (·.1) = false := by rfl)
    (ht : eval (.Call (.Attribute o m apos) (e :: es) [] pos) X.env = (do
      let ov ← eval o X.env
      standAt apos.atName
      let (f, first) ← holding [ov] (getMethod ov m pl)
      callWith pos f first (backTo pos (starEach (e :: es) X.env)) (backToKw pos (keywordEach [] X.env))) := by rfl) :
    PE X (.Call (.Attribute o m apos) (e :: es) [] pos) (tMeth C m sp [] E ta t) := by
  obtain ⟨f, fd, h1, h2, h3⟩ := M.ex
  exact pe_meth he M.cl h1 h3 hr h2 .nil hx ha hst hpl ht
end

/-! ### houses made -/
mutual
theorem tupD_noL : ∀ {d : PyData}, noL d = true → tupD d = d
  | .list _, h => by rw [noL] at h; cases h
  | .dict _, h => by rw [noL] at h; cases h
  | .tuple ds, h => by rw [tupD, tupDs_noL (by rw [noL] at h; exact h)]
  | .none, _ => by rw [tupD]
  | .bool _, _ => by rw [tupD]
  | .int _, _ => by rw [tupD]
  | .str _, _ => by rw [tupD]
theorem tupDs_noL : ∀ {ds : List PyData}, noLs ds = true → tupDs ds = ds
  | [], _ => by rw [tupDs]
  | d :: ds, h => by
    rw [noLs] at h
    obtain ⟨h1, h2⟩ := Bool.and_eq_true_iff.mp h
    rw [tupDs, tupD_noL h1, tupDs_noL h2]
end
theorem fits_up : ∀ {n m : Nat} {d : PyData}, n ≤ m → Fits n d → Fits m d
  | 0, 0, _, _, h => h
  | 0, m + 1, d, _, h => by
    cases d with
    | list _ => exact absurd h (by simp [Fits])
    | tuple _ => exact absurd h (by simp [Fits])
    | dict _ => exact absurd h (by simp [Fits])
    | _ => trivial
  | n + 1, 0, _, h, _ => absurd h (Nat.not_succ_le_zero n)
  | n + 1, m + 1, d, h, f => by
    cases d with
    | list ds => exact ⟨f.1, fun d hd => fits_up (Nat.le_of_succ_le_succ h) (f.2 d hd)⟩
    | tuple ds => exact ⟨f.1, fun d hd => fits_up (Nat.le_of_succ_le_succ h) (f.2 d hd)⟩
    | dict _ => exact absurd f (by simp [Fits])
    | _ => trivial
theorem fits_amtT {l : List (Nat × Int)} (h : l.length ≤ 100000) : Fits 3 (.tuple (amtD l)) := by
  refine ⟨by unfold amtD; rw [List.length_map]; exact h, fun d hd => ?_⟩
  obtain ⟨p, _, rfl⟩ := List.mem_map.mp hd
  refine ⟨by show 2 ≤ 100000; omega, fun d hd => ?_⟩
  rcases List.mem_cons.mp hd with rfl | hd
  · trivial
  · rcases List.mem_cons.mp hd with rfl | hd
    · trivial
    · cases hd
theorem fits_natT {l : List Nat} (h : l.length ≤ 100000) : Fits 2 (.tuple (natD l)) := by
  refine ⟨by unfold natD; rw [List.length_map]; exact h, fun d hd => ?_⟩
  obtain ⟨p, _, rfl⟩ := List.mem_map.mp hd
  trivial
def housP (h : Hous) : HParts := ⟨.tuple (strD h.goods), .tuple (membT h.members), .tuple (amtD h.talks), .tuple (h.recipes.map reciT), .tuple (h.orders.map ordT)⟩
theorem HousOk.fits {h : Hous} (ok : HousOk h) : (housP h).fits 5 := by
  have g1 := ok.g1
  have m1 := ok.m1
  have t1 := ok.t1
  have r1 := ok.r1
  have o1 := ok.o1
  refine ⟨?_, ?_, ?_, ?_, ?_⟩
  · refine ⟨by unfold strD; rw [List.length_map]; omega, fun d hd => ?_⟩
    obtain ⟨p, _, rfl⟩ := List.mem_map.mp hd
    trivial
  · refine ⟨by unfold membT; rw [List.length_map]; omega, fun d hd => ?_⟩
    obtain ⟨p, hp, rfl⟩ := List.mem_map.mp hd
    have z := (ok.m2 p hp).len
    refine ⟨by show 2 ≤ 100000; omega, fun d hd => ?_⟩
    rcases List.mem_cons.mp hd with rfl | hd
    · trivial
    · rcases List.mem_cons.mp hd with rfl | hd
      · exact fits_up (by decide) (fits_amtT (by omega))
      · cases hd
  · exact fits_up (by decide) (fits_amtT (by omega))
  · refine ⟨by rw [List.length_map]; omega, fun d hd => ?_⟩
    obtain ⟨p, hp, rfl⟩ := List.mem_map.mp hd
    have z := ok.r2 p hp
    have z1 := z.nl
    have z2 := z.tk.len
    have z3 := z.gv.len
    refine ⟨by show 6 ≤ 100000; omega, fun d hd => ?_⟩
    rcases List.mem_cons.mp hd with rfl | hd
    · trivial
    rcases List.mem_cons.mp hd with rfl | hd
    · trivial
    rcases List.mem_cons.mp hd with rfl | hd
    · trivial
    rcases List.mem_cons.mp hd with rfl | hd
    · exact fits_up (n := 2) (m := 3) (by decide) (fits_natT (by omega))
    rcases List.mem_cons.mp hd with rfl | hd
    · exact fits_up (n := 3) (m := 3) (by decide) (fits_amtT (by omega))
    rcases List.mem_cons.mp hd with rfl | hd
    · exact fits_up (n := 3) (m := 3) (by decide) (fits_amtT (by omega))
    · cases hd
  · refine ⟨by rw [List.length_map]; omega, fun d hd => ?_⟩
    obtain ⟨p, hp, rfl⟩ := List.mem_map.mp hd
    have z2 := (ok.o2 p hp).tk.len
    refine ⟨by show 3 ≤ 100000; omega, fun d hd => ?_⟩
    rcases List.mem_cons.mp hd with rfl | hd
    · trivial
    rcases List.mem_cons.mp hd with rfl | hd
    · trivial
    rcases List.mem_cons.mp hd with rfl | hd
    · exact fits_up (n := 3) (m := 3) (by decide) (fits_amtT (by omega))
    · cases hd
theorem noLs_str (l : List Str) : noLs (strD l) = true := noLs_map (fun x => by simp [noL]) l
theorem tup_noL {ds : List PyData} (h : noLs ds = true) : tupD (.tuple ds) = .tuple ds := tupD_noL (by rw [noL]; exact h)
/-- a house at a, also when lists that were there before are written -/
def HNew (K : PySem.W.Frag) (C : Addr) (H0 H : Hp) (a : Addr) (h : Hous) : Prop := ∀ p, H0 p ≠ none → HAt K C (cutP H p) a h
theorem hinit_of {K : PySem.W.Frag} {C x dx : Addr} {v1 v2 v3 v4 v5 : V} {H : Hp} {h : Hous} {E : XK} {Q : V → Hp → Prop} {Q2 : V → Hp → Prop} (hx : H x = none) (hdx : H dx = none) (hne : dx ≠ x) (d : DpAll K H [v1, v2, v3, v4, v5] (housT h)) (ok : HousOk h)
    (q : ∀ H', Same H H' → HNew K C H H' x h → Q (.ref x) H') (e : ∀ H', Q (.ref x) H' → Q2 .non H') : spHInit K C 5 [.ref x, v1, v2, v3, v4, v5] (upd (upd H dx (.own x)) x (.ins C dx [])) Q2 E := by
  unfold housT at d
  cases d with
  | cons d1 d =>
  cases d with
  | cons d2 d =>
  cases d with
  | cons d3 d =>
  cases d with
  | cons d4 d =>
  cases d with
  | cons d5 d =>
  have hx2 : upd H dx (.own x) x = none := by rw [upd_ne hne.symm]; exact hx
  have sB : Same H (upd (upd H dx (.own x)) x (.ins C dx [])) := (same_upd hdx).trans (same_upd hx2)
  refine ⟨x, dx, v1, v2, v3, v4, v5, housP h, rfl, upd_same, dp_same sB d1, dp_same sB d2, dp_same sB d3, dp_same sB d4, dp_same sB d5, ok.fits, fun H8 G8 k8 r8 hin => e _ ?_⟩
  have sF : Same H H8 := fun b o e => k8 b o (ne_of_none e hx) (sB _ _ e)
  refine q H8 sF fun p hp => ?_
  obtain ⟨dy, u1, u2, u3, u4, u5, ei, e1, e2, e3, e4, e5⟩ := hin
  have r9 := r8.base sB
  have sG : Same G8 (cutP H8 p) := fun b o e => by
    have nb : b ≠ p := fun z => by
      subst z
      rw [r9.new _ hp] at e
      cases e
    exact cutP_at nb (r9.sub _ _ e)
  have nxp : x ≠ p := fun z => by
    subst z
    exact hp hx
  unfold housP at e1 e2 e3 e4 e5
  dsimp only at e1 e2 e3 e4 e5
  rw [tup_noL (noLs_str _)] at e1
  rw [tup_noL (noL_memb _)] at e2
  rw [tup_noL (noL_tl _)] at e3
  rw [tup_noL (noL_reci _)] at e4
  rw [tup_noL (noL_ord _)] at e5
  exact ⟨dy, u1, u2, u3, u4, u5, cutP_at nxp ei, dp_same sG e1, dp_same sG e2, dp_same sG e3, dp_same sG e4, dp_same sG e5⟩
def spMade (K : PySem.W.Frag) (C : Addr) : Sp := fun vs H Q _ => ∃ (t : Addr) (h : Hous), vs = [.ref t] ∧ Dp K H (.ref t) (.tuple (housT h)) ∧ HousOk h ∧ ∀ (a : Addr) (H' : Hp), Same H H' → HNew K C H H' a h → Q (.ref a) H'
section
variable {P : Program} {w : World} {K : PySem.W.Frag} {mg : Str → Option Value} {base : Heap} {f C : Addr} {fd : FuncData}
theorem ok__law_made_house (F : FnP K "_law_made_house" s__law_made_house f fd) (MH : MakeF P w K mg base CX0 "House" C ["self", "goods", "members", "talks", "recipes", "orders"] [] 7 (spHInit K C 5)) : FnOk P w K mg base CX0 9 f fd ["house"] (spMade K C) := by
  refine F.ok sc__law_made_house (fun vs H Q E h => ?_) (fun cdv A outer s H vs Q E hr h => ⟨_, PSs.nox (pss_one (ps_ret (pe_makeX MH (hr.mono (by decide)) (by rfl) pass0 (pa_cons (pe_ix (show IxR _ (rIxT K) from ix_tup) (pv 0) pe_int (fun _ _ => rfl)) (pa_cons (pe_ix (show IxR _ (rIxT K) from ix_tup) (pv 0) pe_int (fun _ _ => rfl)) (pa_cons (pe_ix (show IxR _ (rIxT K) from ix_tup) (pv 0) pe_int (fun _ _ => rfl)) (pa_cons (pe_ix (show IxR _ (rIxT K) from ix_tup) (pv 0) pe_int (fun _ _ => rfl)) (pa_cons (pe_ix (show IxR _ (rIxT K) from ix_tup) (pv 0) pe_int (fun _ _ => rfl)) pa_nil)))))))), ?_⟩)
  · obtain ⟨t, h, rfl, _⟩ := h
    rfl
  · obtain ⟨t, h, rfl, hd, ok, q⟩ := h
    cases hd with
    | @tup _ xs _ hs hx =>
    obtain ⟨v1, v2, v3, v4, v5, rfl⟩ : ∃ v1 v2 v3 v4 v5, xs = [v1, v2, v3, v4, v5] := by
      unfold housT at hx
      cases hx with
      | cons d1 d =>
      cases d with
      | cons d2 d =>
      cases d with
      | cons d3 d =>
      cases d with
      | cons d4 d =>
      cases d with
      | cons d5 d =>
      cases d
      exact ⟨_, _, _, _, _, rfl⟩
    refine ⟨_, rfl, t, _, 0, _, rfl, rfl, hs, rfl, ?_⟩
    refine ⟨_, rfl, t, _, 1, _, rfl, rfl, hs, rfl, ?_⟩
    refine ⟨_, rfl, t, _, 2, _, rfl, rfl, hs, rfl, ?_⟩
    refine ⟨_, rfl, t, _, 3, _, rfl, rfl, hs, rfl, ?_⟩
    refine ⟨_, rfl, t, _, 4, _, rfl, rfl, hs, rfl, ?_⟩
    intro x dx hx0 hdx hne
    exact hinit_of hx0 hdx hne hx ok (q x) (fun H' z => ⟨rfl, z⟩)
end

/-! ### law k12: what stands between its pieces -/
def spLaw12 (K : PySem.W.Frag) : Sp := fun vs H Q _ => ∃ (a : Addr) (ns : List Int), vs = [.ref a] ∧ SqL K H a (ns.map V.int) ∧ ∀ H', Q (.bl true) H'
abbrev XL12 (P : Program) (w : World) (K : PySem.W.Frag) (mg : Str → Option Value) (base : Heap) (f : Addr) (cdv : Value) (A : Around) (outer : List Env) (s : Shared) (H : Hp) (E : XK) : Cx :=
  (cxOf CX0 P w K mg base N_law "law" (defScope s_law) f cdv A outer s H E).nox
/-- the pool, the house as it was drawn, the house made of it, a group, a lesser one -/
structure LD (K : PySem.W.Frag) (C p s t m gA lA : Addr) (h : Hous) (g l : List Nat) (H : Hp) : Prop where
  pool : PoolS H p s
  dt : Dp K (cutP H p) (.ref t) (.tuple (housT h))
  ok : HousOk h
  hm : HAt K C (cutP H p) m h
  sg : SqT K (cutP H p) gA (natV g)
  sl : SqT K (cutP H p) lA (natV l)
  sub : l.Sublist g
  gm : ∀ k ∈ g, k < h.members.length
  g5 : g.length ≤ 5
  g0 : g ≠ []
theorem LD.mv {K : PySem.W.Frag} {C p s t m gA lA : Addr} {h : Hous} {g l : List Nat} {H H' : Hp} (x : LD K C p s t m gA lA h g l H) (k : Mv p s H H') : LD K C p s t m gA lA h g l H' :=
  ⟨k.pool, dp_same (cutP_same k.kp) x.dt, x.ok, x.hm.same (cutP_same k.kp), same_seqT (cutP_same k.kp) x.sg, same_seqT (cutP_same k.kp) x.sl, x.sub, x.gm, x.g5, x.g0⟩
theorem LD.same {K : PySem.W.Frag} {C p s t m gA lA : Addr} {h : Hous} {g l : List Nat} {H H' : Hp} (x : LD K C p s t m gA lA h g l H) (k : Same H H') : LD K C p s t m gA lA h g l H' := x.mv ⟨Kp.same k, x.pool.same k⟩
def MidA (K : PySem.W.Frag) (C a : Addr) (σ : L2.St) (H : Hp) : Prop := ∃ (p s t m gA lA : Addr) (h : Hous) (g l : List Nat) (z6 z7 z8 z9 z10 z11 z12 z13 z14 z15 z16 z17 z18 : Option V),
  σ = [some (.ref a), some (.ref p), some (.ref t), some (.ref m), some (.ref gA), some (.ref lA), z6, z7, z8, z9, z10, z11, z12, z13, z14, z15, z16, z17, z18] ∧ LD K C p s t m gA lA h g l H
def MidG (K : PySem.W.Frag) (C a : Addr) (σ : L2.St) (H : Hp) : Prop := ∃ (p s t m gA : Addr) (h : Hous) (g : List Nat) (z5 z6 z7 z8 z9 z10 z11 z12 z13 z14 z15 z16 z17 z18 : Option V),
  σ = [some (.ref a), some (.ref p), some (.ref t), some (.ref m), some (.ref gA), z5, z6, z7, z8, z9, z10, z11, z12, z13, z14, z15, z16, z17, z18] ∧ LD K C p s t m gA gA h g g H
def MidB (K : PySem.W.Frag) (C a : Addr) (σ : L2.St) (H : Hp) : Prop := ∃ (p s t m gA lA : Addr) (h : Hous) (g l : List Nat) (x : Int × List Int × List Int) (z6 z7 z9 z10 z11 z12 z13 z14 z15 z16 z17 z18 : Option V),
  σ = [some (.ref a), some (.ref p), some (.ref t), some (.ref m), some (.ref gA), some (.ref lA), z6, z7, some (.int x.1), z9, z10, z11, z12, z13, z14, z15, z16, z17, z18] ∧ LD K C p s t m gA lA h g l H ∧ bestM h g = some x
theorem hous_parts {K : PySem.W.Frag} {H : Hp} {t : Addr} {h : Hous} (d : Dp K H (.ref t) (.tuple (housT h))) : ∃ a1 a2 a3 a4 a5 : Addr, SqT K H t [.ref a1, .ref a2, .ref a3, .ref a4, .ref a5] ∧ Dp K H (.ref a1) (.tuple (strD h.goods)) ∧ Dp K H (.ref a2) (.tuple (membT h.members)) ∧ Dp K H (.ref a3) (.tuple (amtD h.talks)) ∧
    Dp K H (.ref a4) (.tuple (h.recipes.map reciT)) ∧ Dp K H (.ref a5) (.tuple (h.orders.map ordT)) := by
  cases d with
  | @tup _ xs _ hs d =>
  unfold housT at d
  cases d with
  | cons d1 d =>
  cases d with
  | cons d2 d =>
  cases d with
  | cons d3 d =>
  cases d with
  | cons d4 d =>
  cases d with
  | cons d5 d =>
  cases d
  cases d1 with
  | @tup a1 x1 _ s1 e1 =>
  cases d2 with
  | @tup a2 x2 _ s2 e2 =>
  cases d3 with
  | @tup a3 x3 _ s3 e3 =>
  cases d4 with
  | @tup a4 x4 _ s4 e4 =>
  cases d5 with
  | @tup a5 x5 _ s5 e5 =>
  exact ⟨a1, a2, a3, a4, a5, hs, .tup s1 e1, .tup s2 e2, .tup s3 e3, .tup s4 e4, .tup s5 e5⟩
theorem tup_of {K : PySem.W.Frag} {H : Hp} {a : Addr} {ds : List PyData} (d : Dp K H (.ref a) (.tuple ds)) : ∃ xs, SqT K H a xs ∧ DpAll K H xs ds ∧ xs.length = ds.length := by
  cases d with
  | @tup _ xs _ hs d => exact ⟨xs, hs, d, dpa_len d⟩
theorem cutV_take (l : List V) (n : Nat) : cutV l none (some (n : Int)) = l.take n := by
  unfold cutV
  rw [HT.sIx_none, HT.sIx_nat, List.drop_zero, Nat.sub_zero]
  by_cases c : n ≤ l.length
  · rw [Nat.min_eq_left c]
  · rw [Nat.min_eq_right (by omega), List.take_length, List.take_of_length_le (by omega)]
theorem cutV_drop (l : List V) (k : Nat) : cutV l (some (k : Int)) none = l.drop k := by
  unfold cutV
  rw [HT.sIx_none, HT.sIx_nat]
  by_cases c : k ≤ l.length
  · rw [Nat.min_eq_left c]
    rw [List.take_of_length_le (by rw [List.length_drop]; omega)]
  · rw [Nat.min_eq_right (by omega), Nat.sub_self, List.take_zero, List.drop_of_length_le (by omega)]
theorem whole_take {l : List V} {n : Nat} (h : HT.sIx l.length 0 none = 0 ∧ HT.sIx l.length l.length (some (n : Int)) = l.length) : l.take n = l := by
  rw [HT.sIx_nat] at h
  exact List.take_of_length_le (by omega)
theorem whole_drop {l : List V} {k : Nat} (h : HT.sIx l.length 0 (some (k : Int)) = 0 ∧ HT.sIx l.length l.length none = l.length) : l.drop k = l := by
  rw [HT.sIx_nat] at h
  have := h.1
  by_cases c : k = 0
  · rw [c, List.drop_zero]
  · have : l = [] := List.eq_nil_of_length_eq_zero (by omega)
    rw [this, List.drop_nil]

section
variable {P : Program} {w : World} {K : PySem.W.Frag} {mg : Str → Option Value} {base : Heap} {f C : Addr} {cdv : Value} {A : Around} {outer : List Env} {s : Shared} {H0 : Hp} {E : XK}
theorem law12_A (M : MB mg) (C__law_pool : Callee P w K mg base CX0 "_law_pool" ["script", "budget"] 1 (spPool K)) (C__law_draw : Callee P w K mg base CX0 "_law_draw" ["pool", "size"] 1 spDraw) (C__law_house : Callee P w K mg base CX0 "_law_house" ["pool", "most", "large"] 4 (spHouse K))
    (C__law_made_house : Callee P w K mg base CX0 "_law_made_house" ["house"] 9 (spMade K C)) (hr : Room 10 (A.deeper (envOfC "law" (defScope s_law) s.heap.objs.size f cdv))) {a : Addr} {ns : List Int} {u : TS}
    (hB : PSs (XL12 P w K mg base f cdv A outer s H0 E) ((defBody s_law).drop 5) u) :
    ∃ t, PSs (XL12 P w K mg base f cdv A outer s H0 E) ((defBody s_law).drop 0) t ∧ ∀ (D : Ends) (z1 z2 z3 z4 z5 z6 z7 z8 z9 z10 z11 z12 z13 z14 z15 z16 z17 z18 : Option V) (H : Hp), SqL K H a (ns.map V.int) → (∀ σ' H', MidG K C a σ' H' → u D σ' H') →
      t D [some (.ref a), z1, z2, z3, z4, z5, z6, z7, z8, z9, z10, z11, z12, z13, z14, z15, z16, z17, z18] H := by
  refine ⟨_, (pss_cons (ps_set (i := 1) sc_law.nd rfl (.inr rfl) (pe_callC C__law_pool (hr.mono (by first | decide | exact Nat.le_refl _ | omega)) (by rfl) (pa_cons (pv 0) (pa_cons pe_int pa_nil))))
  (pss_cons (ps_set (i := 2) sc_law.nd rfl (.inr rfl) (pe_callC C__law_house (hr.mono (by first | decide | exact Nat.le_refl _ | omega)) (by rfl) (pa_cons (pv 1) (pa_cons pe_int (pa_cons pe_int pa_nil)))))
  (pss_cons (ps_set (i := 3) sc_law.nd rfl (.inl rfl) (pe_callC C__law_made_house (hr.mono (by first | decide | exact Nat.le_refl _ | omega)) (by rfl) (pa_cons (pv 2) pa_nil)))
  (pss_cons (ps_set (i := 4) sc_law.nd rfl (.inl rfl) (pe_callTy call_tuple_of (by rfl) M.tuple (by decide +kernel) (pa_cons (pe_lc (own := [("index", 16)]) (g := gName 16) (by rfl) sc_law.nd (pi_range1 (by rfl) M.range (pa_cons (pe_callB call_len_seq (by rfl) M.len (by decide +kernel) (pa_cons (pe_ix ix_tup (pv 2) pe_int (fun _ _ => rfl)) pa_nil)) pa_nil)) (blkOk_by (own := [("index", 16)]) (N := N_law) (sc := defScope s_law) (by decide +kernel)) (fun _ _ _ _ _ => pg_name (i := 16) sc_law.nd rfl (.inl rfl)) (fun _ _ _ _ _ => pts_one (pt_cmpR op_gt (pe_callC C__law_draw (hr.mono (by first | decide | exact Nat.le_refl _ | omega)) (by rfl) (pa_cons (pv 1) (pa_cons pe_int pa_nil))) pe_int (nomark _))) (fun _ _ _ _ _ => (pv 16))) pa_nil)))
  (Evl.pss_cut (ps_if (pt_cmpR op_eq (pe_callB call_len_seq (by rfl) M.len (by decide +kernel) (pa_cons (pv 4) pa_nil)) pe_int (nomark _)) (pss_one (ps_set (i := 4) sc_law.nd rfl (.inl rfl) (pe_tup (pa_cons pe_int pa_nil)))) pss_nil)
  hB))))), fun D z1 z2 z3 z4 z5 z6 z7 z8 z9 z10 z11 z12 z13 z14 z15 z16 z17 z18 H hs hk => ?_⟩
  have hsz := sizeLine_eq
  refine ⟨_, rfl, a, ns, 0, rfl, hs, fun p H1 hp s1 sc hsc pool => ?_⟩
  refine ⟨_, rfl, p, sc, rfl, pool, fun t h H2 dt ok m1 => ?_⟩
  refine ⟨_, rfl, t, h, rfl, dp_same cutP_sub dt, ok, fun m H3 s3 hm => ?_⟩
  have hp2 : H2 p ≠ none := by
    obtain ⟨_, _, _, _, _, z⟩ := m1.pool.there
    rw [z]
    exact fun z => by cases z
  have hm := hm p hp2
  have dt := dp_same (cutP_same (Kp.same s3)) dt
  have pool := m1.pool.same s3
  clear hp2 s3 m1 hs s1 hp hsc
  have dt0 := dt
  obtain ⟨a1, a2, a3, a4, a5, ht, d1, d2, d3, d4, d5⟩ := hous_parts dt0
  obtain ⟨x2, hx2, e2, l2⟩ := tup_of d2
  unfold membT at l2
  rw [List.length_map] at l2
  have hm0 := ok.m0
  have hm1 := ok.m1
  refine ⟨_, rfl, t, _, 1, _, rfl, rfl, same_seqT cutP_sub ht, rfl, _, _, rfl, .inr (same_seqT cutP_sub hx2), _, rfl, by omega, by omega, fun D1 hD => ?_⟩
  have nD := pool.ne hD
  refine lc_range (lo := 0) (n := (x2.length : Int).toNat) (fun i H' => ∃ g : List Nat, H' D1 = some (.lst (natV g)) ∧ g.Sublist (List.range i) ∧ Mv p sc H3 H') ⟨[], upd_same, List.Sublist.refl _, (Mv.refl pool).new hD⟩ ?_ ?_
  · rintro i H' hi ⟨g, eg, sg, mv⟩
    have lg := sg.length_le
    rw [List.length_range] at lg
    have ei : (0 : Int) + (i : Int) = (i : Int) := Int.zero_add _
    refine ⟨rfl, ?_⟩
    refine ⟨_, rfl, p, 4, rfl, by decide, by decide, sc, mv.pool, fun v o h0 h4 p2 => ⟨_, _, rfl, rfl, _, rfl, ?_⟩⟩
    have mv2 := mv.put p2
    have eg2 : upd H' p o D1 = some (.lst (natV g)) := (upd_ne nD).trans eg
    by_cases c : 0 < v
    · refine ifT (decide_eq_true c) ?_
      rw [ei]
      refine ⟨_, rfl, _, eg2, by unfold natV; rw [List.length_map]; omega, g ++ [i], ?_, ?_, mv2.own pool hD⟩
      · rw [upd_same]
        unfold natV
        rw [List.map_append]
        rfl
      · rw [List.range_succ]
        exact sg.append (List.Sublist.refl _)
    · refine ifF (decide_eq_false c) ?_
      exact ⟨g, eg2, sg.trans (List.range_sublist.mpr (Nat.le_succ _)), mv2⟩
  · rintro H' ⟨g, eg, sg, mv⟩
    have lg := sg.length_le
    rw [List.length_range] at lg
    have gm : ∀ k ∈ g, k < h.members.length := fun k hk => by
      have z := List.mem_range.mp (sg.subset hk)
      omega
    refine ⟨D1, _, rfl, .inl ⟨.inl (.inl eg), fun gA hgA => ?_⟩⟩
    have mv2 := mv.new (o := .tup (natV g)) hgA
    have nA := mv.pool.ne hgA
    have sgA : SqT K (upd H' gA (.tup (natV g))) gA (natV g) := .inl (.inl upd_same)
    have sgC : SqT K (cutP (upd H' gA (.tup (natV g))) p) gA (natV g) := .inl (.inl (cutP_at nA upd_same))
    have dt4 := dp_same (cutP_same mv2.kp) dt
    have hm4 := hm.same (cutP_same mv2.kp)
    have p4 := mv2.pool
    generalize upd H' gA (.tup (natV g)) = H4 at sgA sgC dt4 hm4 p4 ⊢
    refine ⟨MidG K C a, ?_, hk⟩
    refine ⟨_, rfl, _, _, rfl, .inr sgA, rfl, _, rfl, ?_⟩
    by_cases c : g = []
    · refine ifT (by rw [c]; rfl) ?_
      refine ⟨(by show 1 ≤ sizeLine; omega), fun q hq => ?_⟩
      have nq := p4.ne hq
      refine ⟨p, sc, t, m, q, h, [0], _, _, _, _, _, _, _, _, _, _, _, _, _, _, rfl, p4.same (same_upd hq), dp_same (cutP_same (Kp.same (same_upd hq))) dt4, ok, hm4.same (cutP_same (Kp.same (same_upd hq))), .inl (.inl (cutP_at nq upd_same)), .inl (.inl (cutP_at nq upd_same)), List.Sublist.refl _, fun k hk => ?_, by decide, by decide⟩
      rw [List.mem_singleton.mp hk]
      omega
    · refine ifF (decide_eq_false fun z => c ?_) ?_
      · have z2 := V.int.inj z
        unfold natV at z2
        rw [List.length_map] at z2
        exact List.eq_nil_of_length_eq_zero (by omega)
      · exact ⟨p, sc, t, m, gA, h, g, _, _, _, _, _, _, _, _, _, _, _, _, _, _, rfl, p4, dt4, ok, hm4, sgC, sgC, List.Sublist.refl _, gm, by omega, c⟩
theorem law12_G (M : MB mg) (C__law_draw : Callee P w K mg base CX0 "_law_draw" ["pool", "size"] 1 spDraw) (hr : Room 10 (A.deeper (envOfC "law" (defScope s_law) s.heap.objs.size f cdv))) {a : Addr} {u : TS}
    (hB : PSs (XL12 P w K mg base f cdv A outer s H0 E) ((defBody s_law).drop 7) u) :
    ∃ t, PSs (XL12 P w K mg base f cdv A outer s H0 E) ((defBody s_law).drop 5) t ∧ ∀ (D : Ends) (σ : L2.St) (H : Hp), MidG K C a σ H → (∀ σ' H', MidA K C a σ' H' → u D σ' H') → t D σ H := by
  refine ⟨_, (pss_cons (ps_set (i := 5) sc_law.nd rfl (.inl rfl) (pe_callTy call_tuple_of (by rfl) M.tuple (by decide +kernel) (pa_cons (pe_lc (own := [("index", 16)]) (g := gName 16) (by rfl) sc_law.nd (pi_tup (pv 4)) (blkOk_by (own := [("index", 16)]) (N := N_law) (sc := defScope s_law) (by decide +kernel)) (fun _ _ _ _ _ => pg_name (i := 16) sc_law.nd rfl (.inl rfl)) (fun _ _ _ _ _ => pts_one (pt_cmpR op_eq (pe_callC C__law_draw (hr.mono (by first | decide | exact Nat.le_refl _ | omega)) (by rfl) (pa_cons (pv 1) (pa_cons pe_int pa_nil))) pe_int (nomark _))) (fun _ _ _ _ _ => (pv 16))) pa_nil)))
  (Evl.pss_cut (ps_if (pt_cmpR op_eq (pe_callB call_len_seq (by rfl) M.len (by decide +kernel) (pa_cons (pv 5) pa_nil)) pe_int (nomark _)) (pss_one (ps_set (i := 5) sc_law.nd rfl (.inl rfl) (pe_slice (show SlR _ (rSlA K) from sl_tupA) (pv 4) po_none (po_some pe_int)))) pss_nil)
  hB)), fun D σ H hm hk => ?_⟩
  obtain ⟨p, sc, t, m, gA, h, g, z5, z6, z7, z8, z9, z10, z11, z12, z13, z14, z15, z16, z17, z18, rfl, ld⟩ := hm
  have hsz := sizeLine_eq
  have g5 := ld.g5
  have lnv : (natV g).length = g.length := List.length_map _
  refine ⟨_, rfl, gA, rfl, ⟨_, same_seqT cutP_sub ld.sg⟩, fun D1 hD => ?_⟩
  have nD := ld.pool.ne hD
  refine lc_tup (K := K) (a := gA) (xs := natV g) (fun i H' => ∃ l : List Nat, H' D1 = some (.lst (natV l)) ∧ l.Sublist (g.take i) ∧ Mv p sc H H') ⟨[], upd_same, List.nil_sublist _, (Mv.refl ld.pool).new hD⟩ (fun i H' _ x => ?_) (fun i x H' hx x2 => ?_) (fun H' x2 => ?_)
  · obtain ⟨_, _, _, mv⟩ := x
    exact same_seqT cutP_sub (same_seqT (cutP_same mv.kp) ld.sg)
  · obtain ⟨l, el, sl, mv⟩ := x2
    obtain ⟨k, hk2, rfl⟩ := natV_get hx
    have ll := sl.length_le
    rw [List.length_take] at ll
    refine ⟨rfl, ?_⟩
    refine ⟨_, rfl, p, 2, rfl, by decide, by decide, sc, mv.pool, fun v o h0 h4 p2 => ⟨rfl, _, rfl, ?_⟩⟩
    have mv2 := mv.put p2
    have eg2 : upd H' p o D1 = some (.lst (natV l)) := (upd_ne nD).trans el
    obtain ⟨hi, he⟩ := List.getElem?_eq_some_iff.mp hk2
    have et : g.take (i + 1) = g.take i ++ [k] := by rw [List.take_succ_eq_append_getElem hi, he]
    by_cases c : v = 0
    · refine ifT (by rw [c]; rfl) ?_
      refine ⟨_, rfl, _, eg2, by unfold natV; rw [List.length_map]; omega, l ++ [k], ?_, ?_, mv2.own ld.pool hD⟩
      · rw [upd_same]
        unfold natV
        rw [List.map_append]
        rfl
      · rw [et]
        exact sl.append (List.Sublist.refl _)
    · refine ifF (decide_eq_false fun z => c (V.int.inj z)) ?_
      exact ⟨l, eg2, by rw [et]; exact sl.trans (List.sublist_append_left _ _), mv2⟩
  · obtain ⟨l, el, sl, mv⟩ := x2
    rw [lnv, List.take_length] at sl
    refine ⟨D1, _, rfl, .inl ⟨.inl (.inl el), fun lA hlA => ?_⟩⟩
    have mv2 := mv.new (o := .tup (natV l)) hlA
    have nA := mv.pool.ne hlA
    have slA : SqT K (upd H' lA (.tup (natV l))) lA (natV l) := .inl (.inl upd_same)
    have slC : SqT K (cutP (upd H' lA (.tup (natV l))) p) lA (natV l) := .inl (.inl (cutP_at nA upd_same))
    have ld4 := ld.mv mv2
    generalize upd H' lA (.tup (natV l)) = H4 at slA slC ld4 ⊢
    refine ⟨MidA K C a, ?_, hk⟩
    refine ⟨_, rfl, _, _, rfl, .inr slA, rfl, _, rfl, ?_⟩
    by_cases c : l = []
    · refine ifT (by rw [c]; rfl) ?_
      have fin : ∀ (q : Addr) (l2 : List Nat) (H5 : Hp), Same H4 H5 → SqT K (cutP H5 p) q (natV l2) → l2.Sublist g → ∀ z16, MidA K C a [some (.ref a), some (.ref p), some (.ref t), some (.ref m), some (.ref gA), some (.ref q), z6, z7, z8, z9, z10, z11, z12, z13, z14, z15, z16, z17, z18] H5 := fun q l2 H5 s5 hq hl2 z16 => by
        have x := ld4.same s5
        exact ⟨p, sc, t, m, gA, q, h, g, l2, _, _, _, _, _, _, _, _, _, _, _, _, _, rfl, x.pool, x.dt, x.ok, x.hm, x.sg, hq, hl2, x.gm, x.g5, x.g0⟩
      refine ⟨_, rfl, _, rfl, gA, _, rfl, same_seqT cutP_sub ld4.sg, fun _ => fin _ _ _ (fun _ _ e => e) ld4.sg (List.Sublist.refl _) _, fun _ q hq => ?_⟩
      have nq := ld4.pool.ne hq
      refine fin q (g.take 1) _ (same_upd hq) (.inl (.inl (cutP_at nq ?_))) (List.take_sublist _ _) _
      rw [upd_same]
      have e1 : cutV (natV g) none (some ((1 : Nat) : Int)) = natV (g.take 1) := by
        rw [cutV_take]
        unfold natV
        rw [List.map_take]
      exact congrArg (fun z => some (HO.tup z)) e1
    · refine ifF (decide_eq_false fun z => c ?_) ?_
      · have z2 := V.int.inj z
        unfold natV at z2
        rw [List.length_map] at z2
        exact List.eq_nil_of_length_eq_zero (by omega)
      · exact ⟨p, sc, t, m, gA, lA, h, g, l, _, _, _, _, _, _, _, _, _, _, _, _, _, rfl, ld4.pool, ld4.dt, ld4.ok, ld4.hm, ld4.sg, slC, sl, ld4.gm, ld4.g5, ld4.g0⟩
end

theorem held_nn {h : Hous} (ok : HousOk h) : ∀ m, ∀ p ∈ heldBy h m, 0 ≤ p.2 := fun m p hp => by
  unfold heldBy at hp
  rw [List.getD_eq_getElem?_getD] at hp
  by_cases c : m < h.members.length
  · rw [List.getElem?_eq_getElem c] at hp
    exact (ok.m2 _ (List.getElem_mem c)).lo p hp
  · rw [List.getElem?_eq_none (by omega)] at hp
    cases hp
theorem best_ok {h : Hous} (ok : HousOk h) (g : List Nat) : ∃ x, bestM h g = some x ∧ 0 ≤ x.1 := best_some (held_nn ok) fun r hr => (ok.r2 r hr).t0
theorem bestV_some {K : PySem.W.Frag} {H : Hp} {v : V} {b : Best} {x : Int × List Int × List Int} (e : b = some x) (z : BestV K H v b) : ∃ (c q r s : Addr), v = .ref c ∧ SqT K H c [.int x.1, .ref q] ∧ SqT K H q [.ref r, .ref s] ∧ SqT K H r (x.2.1.map V.int) ∧ SqT K H s (x.2.2.map V.int) := by
  rcases z with ⟨z, _⟩ | ⟨y, c, q, r, s, z, h1, h2, h3, h4, h5⟩
  · rw [e] at z
    cases z
  · rw [e] at z
    cases z
    exact ⟨c, q, r, s, h1, h2, h3, h4, h5⟩
section
variable {P : Program} {w : World} {K : PySem.W.Frag} {mg : Str → Option Value} {base : Heap} {f C : Addr} {cdv : Value} {A : Around} {outer : List Env} {s : Shared} {H0 : Hp} {E : XK}
theorem law12_B (M : MB mg) (C_best_plan : Callee P w K mg base CX0 "best_plan" ["house", "group"] 3 (spBest K C)) (C_earned : Callee P w K mg base CX0 "earned" ["house", "group", "plan"] 3 (spEarned K C)) (C__law_same : Callee P w K mg base CX0 "_law_same" ["actual", "due"] 2 (spSame K 1))
    (hr : Room 10 (A.deeper (envOfC "law" (defScope s_law) s.heap.objs.size f cdv))) {a : Addr} {u : TS} (hB : PSs (XL12 P w K mg base f cdv A outer s H0 E) ((defBody s_law).drop 10) u) :
    ∃ t, PSs (XL12 P w K mg base f cdv A outer s H0 E) ((defBody s_law).drop 7) t ∧ ∀ (D : Ends) (σ : L2.St) (H : Hp), MidA K C a σ H → (∀ σ' H', MidB K C a σ' H' → u D σ' H') → t D σ H := by
  refine ⟨_, (pss_cons (ps_asg (pe_callC C_best_plan (hr.mono (by first | decide | exact Nat.le_refl _ | omega)) (by rfl) (pa_cons (pv 3) (pa_cons (pv 5) pa_nil))) (pg_tup (by rfl) (pgs_cons (pg_name (i := 6) sc_law.nd rfl (.inl rfl)) (pgs_cons (pg_name (i := 7) sc_law.nd rfl (.inl rfl)) pgs_nil))))
  (pss_cons (ps_asg (pe_callC C_best_plan (hr.mono (by first | decide | exact Nat.le_refl _ | omega)) (by rfl) (pa_cons (pv 3) (pa_cons (pv 4) pa_nil))) (pg_tup (by rfl) (pgs_cons (pg_name (i := 8) sc_law.nd rfl (.inl rfl)) (pgs_cons (pg_name (i := 9) sc_law.nd rfl (.inl rfl)) pgs_nil))))
  (Evl.pss_cut (ps_if (PW.pt (pw_or (pt_not (pt_val (pe_callC C__law_same (hr.mono (by first | decide | exact Nat.le_refl _ | omega)) (by rfl) (pa_cons (pe_callC C_earned (hr.mono (by first | decide | exact Nat.le_refl _ | omega)) (by rfl) (pa_cons (pv 3) (pa_cons (pv 4) (pa_cons (pv 7) pa_nil)))) (pa_cons (pv 6) pa_nil))))) (pw_or (pt_cmpR op_lt (pv 8) (pv 6) (nomark _)) (pw_or1 (pt_cmpR op_lt (pv 6) pe_int (nomark _)))))) (pss_one (ps_ret pe_bl)) pss_nil)
  hB))), fun D σ H hm hk => ?_⟩
  obtain ⟨p, sc, t, m, gA, lA, h, g, l, z6, z7, z8, z9, z10, z11, z12, z13, z14, z15, z16, z17, z18, rfl, ld⟩ := hm
  have hsz := sizeLine_eq
  have g5 := ld.g5
  have l5 := ld.sub.length_le
  obtain ⟨x, hx, x0⟩ := best_ok ld.ok l
  obtain ⟨y, hy, y0⟩ := best_ok ld.ok g
  have fx := mono_sub (held_nn ld.ok) ld.sub (best_feas hx)
  have le := best_ge hx (fun z f => mono_sub (held_nn ld.ok) ld.sub f) hy
  refine ⟨_, rfl, _, rfl, ?_⟩
  dsimp only [tNil]
  refine ⟨m, lA, h, l, rfl, ld.hm.same cutP_sub, ld.ok, same_seqT cutP_sub ld.sl, by omega, fun k hk => ld.gm k (ld.sub.subset hk), fun v H1 s1 bv => ?_⟩
  obtain ⟨c1, q1, r1, t1, rfl, k1, k2, k3, k4⟩ := bestV_some hx bv
  refine ⟨c1, _, rfl, k1, rfl, _, _, rfl, _, _, rfl, rfl, ?_⟩
  have ld1 := ld.same s1
  refine ⟨_, rfl, _, rfl, ?_⟩
  dsimp only [tNil]
  refine ⟨m, gA, h, g, rfl, ld1.hm.same cutP_sub, ld.ok, same_seqT cutP_sub ld1.sg, by omega, ld.gm, fun v H2 s2 bv => ?_⟩
  obtain ⟨c2, q2, r2, t2, rfl, j1, j2, j3, j4⟩ := bestV_some hy bv
  refine ⟨c2, _, rfl, j1, rfl, _, _, rfl, _, _, rfl, rfl, ?_⟩
  have ld2 := ld1.same s2
  refine ⟨MidB K C a, ?_, hk⟩
  refine ⟨_, rfl, _, rfl, _, rfl, ?_⟩
  dsimp only [tNil]
  refine ⟨m, gA, q1, r1, t1, h, g, x.2.1, x.2.2, rfl, ld2.hm.same cutP_sub, ld.ok, same_seqT cutP_sub ld2.sg, by omega, ld.gm, same_seqT s2 k2, same_seqT s2 k3, same_seqT s2 k4, fx.1, fx.2.1, fun H3 s3 => ⟨fun e => ?_, fun n e => ?_⟩⟩
  · rw [feas_earn fx] at e
    cases e
  · rw [feas_earn fx] at e
    obtain rfl := Option.some.inj e
    have ld3 := ld2.same s3
    refine ⟨_, rfl, ?_⟩
    dsimp only [tNil]
    refine ⟨_, _, .int x.1, rfl, .int _, .int _, trivial, ?_⟩
    refine ⟨_, rfl, ?_⟩
    refine ifF rfl ?_
    refine ⟨_, rfl, _, rfl, _, _, rfl, rfl, _, rfl, ?_⟩
    refine ifF (decide_eq_false (by omega)) ?_
    refine ⟨_, rfl, _, _, rfl, rfl, _, rfl, ?_⟩
    refine ifF (decide_eq_false (by omega)) ?_
    exact ⟨p, sc, t, m, gA, lA, h, g, l, y, _, _, _, _, _, _, _, _, _, _, _, _, rfl, ld3, hy⟩
end

theorem amt_ref {K : PySem.W.Frag} {H : Hp} {v : V} {u : Nat × Int} (d : Dp K H v (.tuple [.int ((u.1 : Nat) : Int), .int u.2])) : ∃ b, v = .ref b ∧ SqT K H b [.int ((u.1 : Nat) : Int), .int u.2] := by
  cases d with
  | @tup b xs _ hs hd =>
    cases hd with
    | cons a1 hd =>
    cases a1
    cases hd with
    | cons a2 hd =>
    cases a2
    cases hd
    exact ⟨b, rfl, hs⟩
theorem memb_at2 {K : PySem.W.Frag} {H : Hp} {xs : List V} {ms : List Memb} {k : Nat} (h : DpAll K H xs (membT ms)) (hk : k < ms.length) : ∃ (b t : Addr), xs[k]? = some (.ref b) ∧ SqT K H b [.str ms[k].1, .ref t] ∧ Dp K H (.ref t) (.tuple (amtD ms[k].2)) := by
  obtain ⟨v, h1, h2⟩ := dpa_at (k := k) (d := .tuple [.str ms[k].1, .tuple (amtD ms[k].2)]) h (by unfold membT; rw [List.getElem?_map, List.getElem?_eq_getElem hk]; rfl)
  cases h2 with
  | @tup b ys _ hs hd =>
    cases hd with
    | cons a1 hd =>
    cases a1
    cases hd with
    | cons a2 hd =>
    cases hd
    cases a2 with
    | @tup t xt _ ht dt =>
    exact ⟨b, t, h1, hs, .tup ht dt⟩
theorem slA_of {K : PySem.W.Frag} {x : V} {lo hi : Option Int} {H : Hp} {Q : VK} (a : Addr) (xs : List V) (e : x = .ref a) (h : SqT K H a xs) (hw : HT.sIx xs.length 0 lo = 0 ∧ HT.sIx xs.length xs.length hi = xs.length → cutV xs lo hi = xs)
    (q : ∀ r H', Same H H' → SqT K H' r (cutV xs lo hi) → Q (.ref r) H') : rSlA K x lo hi H Q :=
  ⟨a, xs, e, h, fun w => q a H (fun _ _ e => e) (by rw [hw w]; exact h), fun _ p hp => q p _ (same_upd hp) (.inl (.inl upd_same))⟩
theorem catA_of {K : PySem.W.Frag} {x y : V} {H : Hp} {Q : VK} (a b : Addr) (xs ys : List V) (e : x = .ref a) (e2 : y = .ref b) (h : SqT K H a xs) (h2 : SqT K H b ys) (hl : xs.length + ys.length ≤ sizeLine)
    (q : ∀ r H', Same H H' → SqT K H' r (xs ++ ys) → Q (.ref r) H') : rCatA K x y H Q :=
  ⟨a, b, xs, ys, e, e2, h, h2, hl, fun z => q b H (fun _ _ e => e) (by rw [z]; exact h2), fun _ z => q a H (fun _ _ e => e) (by rw [z, List.append_nil]; exact h), fun _ _ p hp => q p _ (same_upd hp) (.inl (.inl upd_same))⟩
theorem dpa_take {K : PySem.W.Frag} {H : Hp} : ∀ {vs : List V} {ds : List PyData} (k : Nat), DpAll K H vs ds → DpAll K H (vs.take k) (ds.take k)
  | _, _, 0, _ => .nil
  | _, _, _ + 1, .nil => .nil
  | _, _, k + 1, .cons h t => .cons h (dpa_take k t)
theorem dpa_drop {K : PySem.W.Frag} {H : Hp} : ∀ {vs : List V} {ds : List PyData} (k : Nat), DpAll K H vs ds → DpAll K H (vs.drop k) (ds.drop k)
  | _, _, 0, h => h
  | _, _, _ + 1, .nil => .nil
  | _, _, k + 1, .cons h t => dpa_drop k t
def Hous.withM (h : Hous) (k : Nat) (l : List (Nat × Int)) : Hous := { h with members := h.members.set k ((h.members.getD k (default, [])).1, l) }
theorem withM_ok {h : Hous} {k : Nat} {l : List (Nat × Int)} (ok : HousOk h) (hl : AmtOk h.goods.length l) : HousOk (h.withM k l) := by
  have e : (h.withM k l).members.length = h.members.length := List.length_set
  refine ⟨ok.g0, ok.g1, by rw [e]; exact ok.m0, by rw [e]; exact ok.m1, fun m hm => ?_, ok.t1, ok.r1, fun r hr => ?_, ok.o1, ok.o2⟩
  · rcases List.mem_or_eq_of_mem_set hm with z | z
    · exact ok.m2 m z
    · rw [z]
      exact hl
  · rw [e]
    exact ok.r2 r hr
theorem withM_rich {h : Hous} {k : Nat} {l : List (Nat × Int)} (r : Rich (heldBy h k) l) : ∀ m, Rich (heldBy h m) (heldBy (h.withM k l) m) := fun m => by
  unfold heldBy at r ⊢
  by_cases c : k = m ∧ k < h.members.length
  · obtain ⟨rfl, c⟩ := c
    have e : (h.withM k l).members.getD k (default, []) = ((h.members.getD k (default, [])).1, l) := by
      rw [List.getD_eq_getElem?_getD]
      show ((h.members.set k _)[k]?).getD _ = _
      rw [List.getElem?_set_self c]
      rfl
    rw [e]
    exact r
  · have e : (h.withM k l).members.getD m (default, []) = h.members.getD m (default, []) := by
      rw [List.getD_eq_getElem?_getD, List.getD_eq_getElem?_getD]
      show ((h.members.set k _)[m]?).getD _ = _
      rw [List.getElem?_set]
      split
      · rename_i z
        subst z
        rw [if_neg (fun z => c ⟨rfl, z⟩), List.getElem?_eq_none (Nat.le_of_not_lt fun z => c ⟨rfl, z⟩)]
      · rfl
    rw [e]
    exact Rich.refl _
theorem withM_membT {h : Hous} {k : Nat} {l : List (Nat × Int)} (hk : k < h.members.length) : membT (h.withM k l).members = ((membT h.members).take k ++ [.tuple [.str h.members[k].1, .tuple (amtD l)]]) ++ (membT h.members).drop (k + 1) := by
  have e : (h.members.getD k (default, [])).1 = h.members[k].1 := by rw [List.getD_eq_getElem?_getD, List.getElem?_eq_getElem hk]; rfl
  unfold membT
  show (h.members.set k _).map _ = _
  rw [List.map_set, List.set_eq_take_append_cons_drop, if_pos (by rw [List.length_map]; exact hk), e, List.append_assoc]
  rfl
section
variable {P : Program} {w : World} {K : PySem.W.Frag} {mg : Str → Option Value} {base : Heap} {f C : Addr} {cdv : Value} {A : Around} {outer : List Env} {s : Shared} {H0 : Hp} {E : XK}
set_option maxHeartbeats 8000000 in
theorem law12_C (M : MB mg) (C__law_draw : Callee P w K mg base CX0 "_law_draw" ["pool", "size"] 1 spDraw) (C_best_plan : Callee P w K mg base CX0 "best_plan" ["house", "group"] 3 (spBest K C))
    (MH : MakeF P w K mg base CX0 "House" C ["self", "goods", "members", "talks", "recipes", "orders"] [] 7 (spHInit K C 5))
    (hr : Room 10 (A.deeper (envOfC "law" (defScope s_law) s.heap.objs.size f cdv))) {a : Addr} {u : TS} (hB : PSs (XL12 P w K mg base f cdv A outer s H0 E) ((defBody s_law).drop 14) u) :
    ∃ t, PSs (XL12 P w K mg base f cdv A outer s H0 E) ((defBody s_law).drop 10) t ∧ ∀ (D : Ends) (σ : L2.St) (H : Hp), MidB K C a σ H → (∀ σ' H', MidB K C a σ' H' → u D σ' H') → t D σ H := by
  refine ⟨_, (pss_cons (ps_asg (pe_ix ix_tup (pe_ix ix_tup (pv 2) pe_int (fun _ _ => rfl)) (pe_ix ix_tup (pv 4) pe_int (fun _ _ => rfl)) (fun _ _ => rfl)) (pg_tup (by rfl) (pgs_cons (pg_name (i := 10) sc_law.nd rfl (.inl rfl)) (pgs_cons (pg_name (i := 11) sc_law.nd rfl (.inl rfl)) pgs_nil))))
  (pss_cons (ps_set (i := 12) sc_law.nd rfl (.inl rfl) (pe_callTy call_tuple_of (by rfl) M.tuple (by decide +kernel) (pa_cons (pe_lc (own := [("index", 16), ("number", 17)]) (g := (gTup K 2 (gCons (gName 16) (gCons (gName 17) gNil)))) (by rfl) sc_law.nd (pi_tup (pv 11)) (blkOk_by (own := [("index", 16), ("number", 17)]) (N := N_law) (sc := defScope s_law) (by decide +kernel)) (fun _ _ _ _ _ => (pg_tup (by rfl) (pgs_cons (pg_name (i := 16) sc_law.nd rfl (.inl rfl)) (pgs_cons (pg_name (i := 17) sc_law.nd rfl (.inl rfl)) pgs_nil)))) (fun _ _ _ _ _ => pts_nil) (fun _ _ _ _ _ => (pe_tup (pa_cons (pv 16) (pa_cons (pe_op op_add (pv 17) (pe_callC C__law_draw (hr.mono (by first | decide | exact Nat.le_refl _ | omega)) (by rfl) (pa_cons (pv 1) (pa_cons pe_int pa_nil)))) pa_nil))))) pa_nil)))
  (pss_cons (ps_set (i := 13) sc_law.nd rfl (.inl rfl) (pe_op (show OpR _ (binaryOp .Add) (rCatA K) from op_catA) (pe_op (show OpR _ (binaryOp .Add) (rCatA K) from op_catA) (pe_slice (show SlR _ (rSlA K) from sl_tupA) (pe_ix ix_tup (pv 2) pe_int (fun _ _ => rfl)) po_none (po_some (pe_ix ix_tup (pv 4) pe_int (fun _ _ => rfl)))) (pe_tup (pa_cons (pe_tup (pa_cons (pv 10) (pa_cons (pv 12) pa_nil))) pa_nil))) (pe_slice (show SlR _ (rSlA K) from sl_tupA) (pe_ix ix_tup (pv 2) pe_int (fun _ _ => rfl)) (po_some (pe_op op_add (pe_ix ix_tup (pv 4) pe_int (fun _ _ => rfl)) pe_int)) po_none)))
  (Evl.pss_cut (ps_if (pt_cmpR op_lt (pe_ix ix_tup (pe_callC C_best_plan (hr.mono (by first | decide | exact Nat.le_refl _ | omega)) (by rfl) (pa_cons (pe_makeX MH (hr.mono (by decide)) (by rfl) pass0 (pa_cons (pe_ix ix_tup (pv 2) pe_int (fun _ _ => rfl)) (pa_cons (pv 13) (pa_cons (pe_ix ix_tup (pv 2) pe_int (fun _ _ => rfl)) (pa_cons (pe_ix ix_tup (pv 2) pe_int (fun _ _ => rfl)) (pa_cons (pe_ix ix_tup (pv 2) pe_int (fun _ _ => rfl)) pa_nil)))))) (pa_cons (pv 4) pa_nil))) pe_int (fun _ _ => rfl)) (pv 8) (nomark _)) (pss_one (ps_ret pe_bl)) pss_nil)
  hB)))), fun D σ H hm hk => ?_⟩
  obtain ⟨p, sc, t, m, gA, lA, h, g, l, y, z6, z7, z9, z10, z11, z12, z13, z14, z15, z16, z17, z18, rfl, ld, hy⟩ := hm
  have hsz := sizeLine_eq
  have g5 := ld.g5
  obtain ⟨k, g', rfl⟩ : ∃ k g', g = k :: g' := by
    cases g with
    | nil => exact absurd rfl ld.g0
    | cons k g' => exact ⟨k, g', rfl⟩
  have hkm := ld.gm k List.mem_cons_self
  have hm1 := ld.ok.m1
  obtain ⟨a1, a2, a3, a4, a5, ht, d1, d2, d3, d4, d5⟩ := hous_parts ld.dt
  obtain ⟨x2, hx2, e2, l2⟩ := tup_of d2
  have l2' : x2.length = h.members.length := by
    rw [l2]
    unfold membT
    rw [List.length_map]
  obtain ⟨b, tH, m1, m2, m3⟩ := memb_at2 e2 hkm
  have okm := ld.ok.m2 _ (List.getElem_mem hkm)
  have okl := okm.len
  obtain ⟨xh, hxh, eh, lh⟩ := tup_of m3
  have lh' : xh.length = h.members[k].2.length := by
    rw [lh]
    unfold amtD
    rw [List.length_map]
  refine ⟨_, rfl, t, _, 1, _, rfl, rfl, same_seqT cutP_sub ht, rfl, _, rfl, gA, _, 0, .int ((k : Nat) : Int), rfl, rfl, same_seqT cutP_sub ld.sg, atI_nat (j := 0) rfl, a2, _, _, _, rfl, rfl, same_seqT cutP_sub hx2, atI_nat m1, b, _, rfl, same_seqT cutP_sub m2, rfl, _, _, rfl, _, _, rfl, rfl, ?_⟩
  refine ⟨_, rfl, tH, rfl, ⟨_, same_seqT cutP_sub hxh⟩, fun D1 hD => ?_⟩
  have nD := ld.pool.ne hD
  refine lc_tup (K := K) (a := tH) (xs := xh) (fun i H' => ∃ (ts : List V) (l' : List (Nat × Int)), H' D1 = some (.lst ts) ∧ DpAll K (cutP (cutP H' p) D1) ts (amtD l') ∧ l'.length = i ∧ (∀ (j : Nat) (u u' : Nat × Int), h.members[k].2[j]? = some u → l'[j]? = some u' → u.1 = u'.1 ∧ u.2 ≤ u'.2) ∧ Mv p sc H H') ⟨[], [], upd_same, .nil, rfl, (fun j u u' _ z => by cases z), (Mv.refl ld.pool).new hD⟩ (fun i H' _ x => ?_) (fun i x H' hx x2 => ?_) (fun H' x2 => ?_)
  · obtain ⟨_, _, _, _, _, _, mv⟩ := x
    exact same_seqT cutP_sub (same_seqT (cutP_same mv.kp) hxh)
  · obtain ⟨ts, l', e1, dl, ll, rr, mv⟩ := x2
    obtain ⟨uu, hu, du⟩ := map_get eh hx
    obtain ⟨bp, rfl, hb⟩ := amt_ref du
    have lts := dpa_len dl
    unfold amtD at lts
    rw [List.length_map] at lts
    have hi := (List.getElem?_eq_some_iff.mp hu).1
    have hb' := same_seqT cutP_sub (same_seqT (cutP_same mv.kp) hb)
    refine ⟨bp, _, rfl, hb', rfl, _, _, rfl, _, _, rfl, rfl, rfl, yes_of ?_⟩
    refine ⟨_, rfl, _, rfl, _, rfl, p, 3, rfl, by decide, by decide, sc, mv.pool, fun v o g0 g1 p2 => ?_⟩
    have mv2 := mv.put p2
    refine ⟨_, _, rfl, rfl, (by show 2 ≤ sizeLine; omega), fun t1 ht1 => ?_⟩
    replace ht1 : upd H' p o t1 = none := ht1
    have nt := p2.ne ht1
    have e3 : upd H' p o D1 = some (.lst ts) := (upd_ne nD).trans e1
    have ntD : t1 ≠ D1 := fun z => by
      rw [z, e3] at ht1
      cases ht1
    have m3 := mv2.new (o := .tup [.int ((uu.1 : Nat) : Int), .int (uu.2 + v)]) ht1
    have kk : Kp p H' (upd (upd H' p o) t1 (.tup [.int ((uu.1 : Nat) : Int), .int (uu.2 + v)])) := Kp.upd.trans (Kp.same (same_upd ht1))
    refine ⟨ts, (upd_ne ntD.symm).trans e3, by omega, ts ++ [.ref t1], l' ++ [(uu.1, uu.2 + v)], upd_same, ?_, by rw [List.length_append, ll]; rfl, fun j q q' hq hq' => ?_, m3.own ld.pool hD⟩
    · rw [cut2_own]
      unfold amtD
      rw [List.map_append]
      exact dpa_append (dpa_same (cut2_same kk) dl) (.cons (.tup (.inl (.inl (cutP_at ntD (cutP_at nt upd_same)))) (.cons (.int _) (.cons (.int _) .nil))) .nil)
    · by_cases c : j < l'.length
      · rw [List.getElem?_append_left c] at hq'
        exact rr j q q' hq hq'
      · have : j < (l' ++ [(uu.1, uu.2 + v)]).length := (List.getElem?_eq_some_iff.mp hq').1
        rw [List.length_append] at this
        have e : j = l'.length := by
          have : j < l'.length + 1 := this
          omega
        subst e
        rw [List.getElem?_append_right (Nat.le_refl _), Nat.sub_self] at hq'
        obtain rfl := Option.some.inj hq'
        rw [ll, hu] at hq
        obtain rfl := Option.some.inj hq
        exact ⟨rfl, by show uu.2 ≤ uu.2 + v; omega⟩
  · obtain ⟨ts, l', e1, dl, ll, rr, mv⟩ := x2
    rw [lh'] at ll
    refine ⟨D1, ts, rfl, .inl ⟨.inl (.inl e1), fun rA hrA => ?_⟩⟩
    have drA : Dp K (cutP (upd H' rA (.tup ts)) p) (.ref rA) (.tuple (amtD l')) := .tup (.inl (.inl (cutP_at (mv.pool.ne hrA) upd_same))) (dpa_same (cutP_sub.trans (cutP_same (Kp.same (same_upd hrA)))) dl)
    have mv5 := mv.new (o := .tup ts) hrA
    generalize upd H' rA (.tup ts) = H5 at drA mv5 ⊢
    have ld5 := ld.mv mv5
    have mk := cutP_same mv5.kp
    have ht5 : SqT K H5 t [.ref a1, .ref a2, .ref a3, .ref a4, .ref a5] := same_seqT cutP_sub (same_seqT mk ht)
    have hg5 : SqT K H5 gA (natV (k :: g')) := same_seqT cutP_sub (same_seqT mk ld.sg)
    have hx5 : SqT K H5 a2 x2 := same_seqT cutP_sub (same_seqT mk hx2)
    have ex5 : DpAll K H5 x2 (membT h.members) := dpa_same cutP_sub (dpa_same mk e2)
    have dd1 := dp_same cutP_sub (dp_same mk d1)
    have dd3 := dp_same cutP_sub (dp_same mk d3)
    have dd4 := dp_same cutP_sub (dp_same mk d4)
    have dd5 := dp_same cutP_sub (dp_same mk d5)
    have drA5 := dp_same cutP_sub drA
    have g0 : atI (natV (k :: g')) 0 = some (.int ((k : Nat) : Int)) := atI_nat (j := 0) rfl
    refine ⟨_, rfl, t, _, 1, _, rfl, rfl, ht5, rfl, _, rfl, gA, _, 0, .int ((k : Nat) : Int), rfl, rfl, hg5, g0, _, rfl, ?_⟩
    refine slA_of a2 x2 rfl hx5 (fun w => by rw [cutV_take]; exact whole_take w) (fun r1 H6 s6 h6 => ?_)
    rw [cutV_take] at h6
    refine ⟨_, rfl, _, rfl, (by show 2 ≤ sizeLine; omega), fun u1 hu1 => ?_⟩
    refine ⟨(by show 1 ≤ sizeLine; omega), fun u2 hu2 => ?_⟩
    have s67 : Same H6 (upd (upd H6 u1 (.tup [.str h.members[k].1, .ref rA])) u2 (.tup [.ref u1])) := (same_upd hu1).trans (same_upd hu2)
    have s57 := s6.trans s67
    have du1 : Dp K (upd (upd H6 u1 (.tup [.str h.members[k].1, .ref rA])) u2 (.tup [.ref u1])) (.ref u1) (.tuple [.str h.members[k].1, .tuple (amtD l')]) :=
      .tup (.inl (.inl ((same_upd hu2) _ _ upd_same))) (.cons (.str _) (.cons (dp_same s57 drA5) .nil))
    have lt2 : (x2.take k).length = k := by rw [List.length_take]; omega
    refine catA_of r1 u2 (x2.take k) [.ref u1] rfl rfl (same_seqT s67 h6) (.inl (.inl upd_same)) (by rw [lt2]; show k + 1 ≤ _; omega) (fun r2 H8 s8 h8 => ?_)
    have du1 := dp_same s8 du1
    have s58 := s57.trans s8
    clear s67 s57 h6 hu1 hu2 s6
    refine ⟨_, rfl, t, _, 1, _, rfl, rfl, same_seqT s58 ht5, rfl, _, rfl, gA, _, 0, .int ((k : Nat) : Int), rfl, rfl, same_seqT s58 hg5, g0, _, _, rfl, rfl, _, rfl, ?_⟩
    have ek : ((k : Nat) : Int) + 1 = ((k + 1 : Nat) : Int) := by omega
    dsimp only [tNoPart]
    rw [ek]
    refine slA_of a2 x2 rfl (same_seqT s58 hx5) (fun w => by rw [cutV_drop]; exact whole_drop w) (fun r3 H9 s9 h9 => ?_)
    rw [cutV_drop] at h9
    have ld3 : (x2.drop (k + 1)).length ≤ 5 := by rw [List.length_drop]; omega
    refine catA_of r2 r3 (x2.take k ++ [.ref u1]) (x2.drop (k + 1)) rfl rfl (same_seqT s9 h8) h9 (by rw [List.length_append, lt2]; show (k + 1) + _ ≤ _; omega) (fun r4 H10 s10 h10 => ?_)
    have s810 := s9.trans s10
    have s510 := s58.trans s810
    have okN : AmtOk h.goods.length l' := ⟨by omega, fun q hq => ?_, fun q hq => ?_⟩
    · have ok' : HousOk (h.withM k l') := withM_ok ld.ok okN
      have dm : DpAll K H10 ((x2.take k ++ [.ref u1]) ++ x2.drop (k + 1)) (membT (h.withM k l').members) := by
        rw [withM_membT hkm]
        have z := dpa_same s510 ex5
        exact dpa_append (dpa_append (dpa_take k z) (.cons (dp_same s810 du1) .nil)) (dpa_drop (k + 1) z)
      have dpa : DpAll K H10 [.ref a1, .ref r4, .ref a3, .ref a4, .ref a5] (housT (h.withM k l')) := .cons (dp_same s510 dd1) (.cons (.tup h10 dm) (.cons (dp_same s510 dd3) (.cons (dp_same s510 dd4) (.cons (dp_same s510 dd5) .nil))))
      have ht10 := same_seqT s510 ht5
      refine ⟨MidB K C a, ?_, hk⟩
      refine ⟨_, rfl, t, _, 0, _, rfl, rfl, ht10, rfl, ?_⟩
      refine ⟨_, rfl, ?_⟩
      refine ⟨_, rfl, t, _, 2, _, rfl, rfl, ht10, rfl, ?_⟩
      refine ⟨_, rfl, t, _, 3, _, rfl, rfl, ht10, rfl, ?_⟩
      refine ⟨_, rfl, t, _, 4, _, rfl, rfl, ht10, rfl, ?_⟩
      intro x dx hx0 hdx hne
      refine hinit_of (Q := fun _ H' => Same H10 H' ∧ HNew K C H10 H' x (h.withM k l')) hx0 hdx hne dpa ok' (fun H' s hn => ⟨s, hn⟩) (fun H13 z => ⟨rfl, ?_⟩)
      obtain ⟨s13, hn⟩ := z
      have ld10 := ld5.same s510
      have hp10 : H10 p ≠ none := by
        obtain ⟨_, _, _, _, _, z⟩ := ld10.pool.there
        rw [z]
        exact fun z => by cases z
      have hh := hn p hp10
      have ld13 := ld10.same s13
      refine ⟨_, rfl, ?_⟩
      dsimp only [tNil]
      have em : (h.withM k l').members.length = h.members.length := List.length_set
      refine ⟨x, gA, h.withM k l', k :: g', rfl, hh.same cutP_sub, ok', same_seqT cutP_sub ld13.sg, by omega, fun j hj => by rw [em]; exact ld.gm j hj, fun v H14 s14 bv => ?_⟩
      have ld14 := ld13.same s14
      obtain ⟨y', hy', _⟩ := best_ok ok' (k :: g')
      have eh : heldBy h k = h.members[k].2 := by unfold heldBy; rw [List.getD_eq_getElem?_getD, List.getElem?_eq_getElem hkm]; rfl
      have rich : Rich (heldBy h k) l' := ⟨by rw [eh, ll], fun i q q' => by rw [eh]; exact rr i q q'⟩
      have le := best_ge hy (fun z f => mono_rich (h := h) (h' := h.withM k l') rfl rfl rfl (withM_rich rich) f) hy'
      obtain ⟨c2, q2, r2, t2, rfl, j1, j2, j3, j4⟩ := bestV_some hy' bv
      refine ⟨c2, _, 0, _, rfl, rfl, j1, rfl, _, rfl, _, _, rfl, rfl, _, rfl, ?_⟩
      refine ifF (decide_eq_false (by omega)) ?_
      exact ⟨p, sc, t, m, gA, lA, h, k :: g', l, y, _, _, _, _, _, _, _, _, _, _, _, _, rfl, ld14, hy⟩
    · obtain ⟨i, hi, e⟩ := List.getElem_of_mem hq
      have z := rr i (h.members[k].2[i]'(by omega)) q (List.getElem?_eq_getElem _) (by rw [List.getElem?_eq_getElem hi, e])
      rw [← z.1]
      exact okm.ix _ (List.getElem_mem _)
    · obtain ⟨i, hi, e⟩ := List.getElem_of_mem hq
      have z := rr i (h.members[k].2[i]'(by omega)) q (List.getElem?_eq_getElem _) (by rw [List.getElem?_eq_getElem hi, e])
      have z2 := okm.lo _ (List.getElem_mem (show i < h.members[k].2.length by omega))
      omega
end

def five : List Str := ["zzz", "zzy", "zzx", "zzw", "zzv"]
def ordN (h : Hous) : List V := h.orders.map fun o => V.str o.name
def freeB (h : Hous) (x : Str) : Bool := !inV (.str x) (ordN h)
theorem in_ord {h : Hous} {x : Str} (e : inV (.str x) (ordN h) = true) : x ∈ h.orders.map (·.name) := by
  unfold inV ordN at e
  rw [List.any_map, List.any_eq_true] at e
  obtain ⟨o, ho, e2⟩ := e
  have e3 : o.name = x := by simpa [eqV] using e2
  rw [← e3]
  exact List.mem_map.mpr ⟨o, ho, rfl⟩
theorem nodup_le : ∀ {xs L : List Str}, xs.Nodup → (∀ x ∈ xs, x ∈ L) → xs.length ≤ L.length
  | [], _, _, _ => Nat.zero_le _
  | x :: xs, L, nd, s => by
    have hx := s x List.mem_cons_self
    have nd := List.nodup_cons.mp nd
    have z := nodup_le (xs := xs) (L := L.erase x) nd.2 fun y hy => by
      have n : y ≠ x := fun e => nd.1 (by rw [← e]; exact hy)
      exact (List.mem_erase_of_ne n).mpr (s y (List.mem_cons_of_mem _ hy))
    have l := List.length_erase_of_mem hx
    have p := List.length_pos_of_mem hx
    rw [List.length_cons]
    omega
theorem five_free {h : Hous} (c : h.orders.length < 4) : ∃ z zs, five.filter (freeB h) = z :: zs := by
  cases e : five.filter (freeB h) with
  | cons z zs => exact ⟨z, zs, rfl⟩
  | nil =>
    have z := List.filter_eq_nil_iff.mp e
    have w := nodup_le (xs := five) (L := h.orders.map (·.name)) (by decide) fun x hx => in_ord (by
      have y := z x hx
      unfold freeB at y
      cases q : inV (.str x) (ordN h) with
      | true => rfl
      | false => rw [q] at y; exact absurd rfl y)
    rw [List.length_map] at w
    have : five.length = 5 := rfl
    omega
theorem flat_ord (h : Hous) : (ordN h).all flatV = true := by
  unfold ordN
  rw [List.all_map]
  exact List.all_eq_true.mpr fun _ _ => rfl
def Hous.withO (h : Hous) (o : Ordr) : Hous := { h with orders := h.orders ++ [o] }
theorem withO_ok {h : Hous} {o : Ordr} (ok : HousOk h) (c : h.orders.length < 4) (ho : OrdrOk h.goods.length o) : HousOk (h.withO o) := by
  refine ⟨ok.g0, ok.g1, ok.m0, ok.m1, ok.m2, ok.t1, ok.r1, ok.r2, ?_, fun q hq => ?_⟩
  · show (h.orders ++ [o]).length ≤ 5
    rw [List.length_append]
    show _ + 1 ≤ 5
    omega
  · rcases List.mem_append.mp hq with z | z
    · exact ok.o2 q z
    · rw [List.mem_singleton.mp z]
      exact ho
theorem ord_ref {K : PySem.W.Frag} {H : Hp} {v : V} {o : Ordr} (d : Dp K H v (ordT o)) : ∃ b t, v = .ref b ∧ SqT K H b [.str o.name, .int o.pay, .ref t] := by
  cases d with
  | @tup b ys _ hs hd =>
    cases hd with
    | cons a1 hd =>
    cases a1
    cases hd with
    | cons a2 hd =>
    cases a2
    cases hd with
    | cons a3 hd =>
    cases hd
    cases a3 with
    | @tup t xt _ ht dt =>
    exact ⟨b, t, rfl, hs⟩
theorem pi_tupK {X : Cx} {K : PySem.W.Frag} {tg : Expr} {l : Expr} {tl : TE} (hK : X.K = K) (hl : PE X l tl) : PI X tg l (iTup K tl) := by
  subst hK
  exact pi_tup hl
section
variable {P : Program} {w : World} {K : PySem.W.Frag} {mg : Str → Option Value} {base : Heap} {f C : Addr} {cdv : Value} {A : Around} {outer : List Env} {s : Shared} {H0 : Hp} {E : XK}
set_option maxHeartbeats 8000000 in
theorem law12_D (M : MB mg) (C__law_draw : Callee P w K mg base CX0 "_law_draw" ["pool", "size"] 1 spDraw) (C_best_plan : Callee P w K mg base CX0 "best_plan" ["house", "group"] 3 (spBest K C))
    (MH : MakeF P w K mg base CX0 "House" C ["self", "goods", "members", "talks", "recipes", "orders"] [] 7 (spHInit K C 5))
    (hr : Room 10 (A.deeper (envOfC "law" (defScope s_law) s.heap.objs.size f cdv))) {a : Addr} :
    ∃ t, PSs (XL12 P w K mg base f cdv A outer s H0 E) ((defBody s_law).drop 14) t ∧ ∀ (D : Ends) (σ : L2.St) (H : Hp), MidB K C a σ H → (∀ H', D.rt (.bl true) H') → t D σ H := by
  refine ⟨_, (pss_cons (ps_if (pt_cmpR op_lt (pe_callB call_len_seq (by rfl) M.len (by decide +kernel) (pa_cons (pe_ix ix_tup (pv 2) pe_int (fun _ _ => rfl)) pa_nil)) pe_int (nomark _)) (pss_cons (ps_set (i := 14) sc_law.nd rfl (.inl rfl) (pe_ix ix_list (pe_lc (own := [("name", 10)]) (g := gName 10) (by rfl) sc_law.nd (pi_tup (pe_tup (pa_cons pe_str (pa_cons pe_str (pa_cons pe_str (pa_cons pe_str (pa_cons pe_str pa_nil))))))) (blkOk_by (own := [("name", 10)]) (N := N_law) (sc := defScope s_law) (by decide +kernel)) (fun _ _ _ _ _ => pg_name (i := 10) sc_law.nd rfl (.inl rfl)) (fun _ _ _ _ _ => pts_one (pt_cmpR (show OpR _ (compareOp .NotIn) (rIn K true) from op_notIn_seq) (pv 10) (pe_lc (own := [("order", 18)]) (g := gName 18) (by rfl) sc_law.nd (pi_tupK (K := K) rfl (pe_ix (show IxR _ (rIxT K) from ix_tup) (pv 2) pe_int (fun _ _ => rfl))) (blkOk_by (own := [("order", 18)]) (N := N_law) (sc := ⟨ScopeKind.function, [(".0", NameKind.local), ("name", NameKind.local), ("house", NameKind.cell)], false, false, []⟩) (by decide +kernel)) (fun _ _ _ _ _ => pg_name (i := 18) sc_law.nd rfl (.inl rfl)) (fun _ _ _ _ _ => pts_nil) (fun _ _ _ _ _ => (pe_ix (show IxR _ (rIxT K) from ix_tup) (pv 18) pe_int (fun _ _ => rfl)))) (by rfl))) (fun _ _ _ _ _ => (pv 10))) pe_int (fun _ _ => rfl)))
  (pss_cons (ps_set (i := 15) sc_law.nd rfl (.inl rfl) (pe_tup (pa_cons (pv 14) (pa_cons (pe_callC C__law_draw (hr.mono (by first | decide | exact Nat.le_refl _ | omega)) (by rfl) (pa_cons (pv 1) (pa_cons pe_int pa_nil))) (pa_cons (pe_tup (pa_cons (pe_tup (pa_cons pe_int (pa_cons (pe_callC C__law_draw (hr.mono (by first | decide | exact Nat.le_refl _ | omega)) (by rfl) (pa_cons (pv 1) (pa_cons pe_int pa_nil))) pa_nil))) pa_nil)) pa_nil)))))
  (pss_one (ps_if (pt_cmpR op_lt (pe_ix ix_tup (pe_callC C_best_plan (hr.mono (by first | decide | exact Nat.le_refl _ | omega)) (by rfl) (pa_cons (pe_makeX MH (hr.mono (by decide)) (by rfl) pass0 (pa_cons (pe_ix ix_tup (pv 2) pe_int (fun _ _ => rfl)) (pa_cons (pe_ix ix_tup (pv 2) pe_int (fun _ _ => rfl)) (pa_cons (pe_ix ix_tup (pv 2) pe_int (fun _ _ => rfl)) (pa_cons (pe_ix ix_tup (pv 2) pe_int (fun _ _ => rfl)) (pa_cons (pe_op (show OpR _ (binaryOp .Add) (rCatA K) from op_catA) (pe_ix ix_tup (pv 2) pe_int (fun _ _ => rfl)) (pe_tup (pa_cons (pv 15) pa_nil))) pa_nil)))))) (pa_cons (pv 4) pa_nil))) pe_int (fun _ _ => rfl)) (pv 8) (nomark _)) (pss_one (ps_ret pe_bl)) pss_nil)))) pss_nil)
  (pss_one (ps_ret pe_bl))), fun D σ H hm hk => ?_⟩
  obtain ⟨p, sc, t, m, gA, lA, h, g, l, y, z6, z7, z9, z10, z11, z12, z13, z14, z15, z16, z17, z18, rfl, ld, hy⟩ := hm
  have hsz := sizeLine_eq
  have g5 := ld.g5
  obtain ⟨a1, a2, a3, a4, a5, htC, d1, d2, d3, d4, d5⟩ := hous_parts ld.dt
  obtain ⟨x5, hx5C, e5C, l5⟩ := tup_of d5
  rw [List.length_map] at l5
  have ht := same_seqT cutP_sub htC
  have hx5 := same_seqT cutP_sub hx5C
  have e5 := dpa_same cutP_sub e5C
  · refine ⟨_, rfl, t, _, 4, _, rfl, rfl, ht, rfl, _, _, rfl, .inr hx5, _, _, rfl, rfl, _, rfl, ?_⟩
    by_cases c : h.orders.length < 4
    · refine ifT (decide_eq_true (by omega)) ?_
      refine ⟨(by show 5 ≤ sizeLine; omega), fun T5 hT5 => ?_⟩
      have s1 := same_upd (o := .tup [.str "zzz", .str "zzy", .str "zzx", .str "zzw", .str "zzv"]) hT5
      have eT5 : upd H T5 (.tup [.str "zzz", .str "zzy", .str "zzx", .str "zzw", .str "zzv"]) T5 = some (.tup (five.map V.str)) := upd_same
      refine ⟨T5, rfl, ⟨_, .inl (.inl eT5)⟩, fun D1 hD => ?_⟩
      replace hD : upd H T5 (.tup [.str "zzz", .str "zzy", .str "zzx", .str "zzw", .str "zzv"]) D1 = none := hD
      generalize upd H T5 (.tup [.str "zzz", .str "zzy", .str "zzx", .str "zzw", .str "zzv"]) = H1 at s1 eT5 hD ⊢
      refine lc_tup (K := K) (a := T5) (xs := five.map V.str) (fun i H' => Same H1 H' ∧ H' D1 = some (.lst (((five.take i).filter (freeB h)).map V.str))) ⟨same_upd hD, upd_same⟩ (fun i H' _ x => .inl (.inl (x.1 _ _ eT5))) (fun i x H' hx x2 => ?_) (fun H' x2 => ?_)
      · obtain ⟨s2, e2⟩ := x2
        rw [List.getElem?_map] at hx
        obtain ⟨z, hz, rfl⟩ := Option.map_eq_some_iff.mp hx
        have sA := s1.trans s2
        refine ⟨rfl, ?_⟩
        refine ⟨_, rfl, _, rfl, t, _, 4, _, rfl, rfl, same_seqT sA ht, rfl, a5, rfl, ⟨_, same_seqT sA hx5⟩, fun D2 hD2 => ?_⟩
        refine lc_tup (K := K) (a := a5) (xs := x5) (fun j H'' => Same H' H'' ∧ H'' D2 = some (.lst ((ordN h).take j))) ⟨same_upd hD2, upd_same⟩ (fun i H'' _ x => same_seqT (sA.trans x.1) hx5) (fun j x H'' hx x2 => ?_) (fun H'' x2 => ?_)
        · obtain ⟨s3, e3⟩ := x2
          obtain ⟨o, ho, dO⟩ := map_get e5 hx
          obtain ⟨bo, to, rfl, hb⟩ := ord_ref dO
          have hj := (List.getElem?_eq_some_iff.mp ho).1
          refine ⟨rfl, yes_of ?_⟩
          refine ⟨_, rfl, bo, _, 0, _, rfl, rfl, same_seqT (sA.trans s3) hb, rfl, ?_⟩
          refine ⟨_, e3, by unfold ordN; rw [List.length_take, List.length_map]; omega, same_upd_new s3 hD2, ?_⟩
          have hn : (ordN h)[j]? = some (V.str o.name) := by unfold ordN; rw [List.getElem?_map, ho]; rfl
          obtain ⟨hj2, he⟩ := List.getElem?_eq_some_iff.mp hn
          rw [upd_same, List.take_succ_eq_append_getElem hj2, he]
        · obtain ⟨s3, e3⟩ := x2
          have lo : (ordN h).length = x5.length := by unfold ordN; rw [List.length_map, l5]
          rw [← lo, List.take_length] at e3
          refine ⟨D2, _, rfl, .inl (.inl (.inl e3)), rfl, flat_ord h, _, rfl, ?_⟩
          obtain ⟨hi, he⟩ := List.getElem?_eq_some_iff.mp hz
          have et : five.take (i + 1) = five.take i ++ [z] := by rw [List.take_succ_eq_append_getElem hi, he]
          have s4 := s2.trans s3
          have e4 := s3 _ _ e2
          show if freeB h z = true then _ else _
          cases fb : freeB h z with
          | true =>
            refine ifT rfl ?_
            refine ⟨_, rfl, _, e4, ?_, same_upd_new s4 hD, ?_⟩
            · rw [List.length_map]
              have l1 := List.length_filter_le (freeB h) (five.take i)
              rw [List.length_take] at l1
              have : five.length = 5 := rfl
              omega
            · rw [upd_same, et, List.filter_append, List.map_append]
              simp [fb]
          | false =>
            refine ifF rfl ?_
            refine ⟨s4, ?_⟩
            rw [et, List.filter_append, List.map_append]
            simp only [List.filter_cons, fb, List.filter_nil, List.map_nil, List.append_nil, Bool.false_eq_true, if_false]
            exact e4
      · obtain ⟨s2, e2⟩ := x2
        rw [List.length_map, List.take_length] at e2
        obtain ⟨own, zs, ez⟩ := five_free c
        rw [ez] at e2
        have sA := s1.trans s2
        refine ⟨D1, _, 0, .str own, rfl, rfl, .inl (.inl e2), atI_nat (j := 0) rfl, ?_⟩
        have ld2 := ld.same sA
        refine ⟨_, rfl, _, rfl, p, 30, rfl, by decide, by decide, sc, ld2.pool, fun v1 o1 v10 v11 p2 => ?_⟩
        have mv2 := (Mv.refl ld2.pool).put p2
        refine ⟨_, rfl, p, 3, rfl, by decide, by decide, sc, p2, fun v2 o2 v20 v21 p3 => ?_⟩
        have mv3 := mv2.put p3
        have ld3 := ld2.mv mv3
        replace ld3 : LD K C p sc t m gA lA h g l (upd (upd H' p o1) p o2) := ld3
        refine ⟨(by show 2 ≤ sizeLine; omega), fun q1 hq1 => ?_⟩
        refine ⟨(by show 1 ≤ sizeLine; omega), fun q2 hq2 => ?_⟩
        refine ⟨(by show 3 ≤ sizeLine; omega), fun q3 hq3 => ?_⟩
        generalize upd (upd H' p o1) p o2 = H3 at hq1 hq2 hq3 ld3 ⊢
        have sQ1 := same_upd (o := .tup [.int 0, .int v2]) hq1
        have sQ2 := same_upd (o := .tup [.ref q1]) hq2
        have sQ3 := same_upd (o := .tup [.str own, .int v1, .ref q2]) hq3
        have ld4 := ld3.same ((sQ1.trans sQ2).trans sQ3)
        have dq1 : Dp K _ (.ref q1) (.tuple [.int ((0 : Nat) : Int), .int v2]) := .tup (.inl (.inl (sQ3 _ _ (sQ2 _ _ upd_same)))) (.cons (.int _) (.cons (.int _) .nil))
        have dq2 : Dp K _ (.ref q2) (.tuple (amtD [(0, v2)])) := .tup (.inl (.inl (sQ3 _ _ upd_same))) (.cons dq1 .nil)
        have dq3 : Dp K _ (.ref q3) (ordT ⟨own, v1, [(0, v2)]⟩) := .tup (.inl (.inl upd_same)) (.cons (.str _) (.cons (.int _) (.cons dq2 .nil)))
        generalize upd (upd (upd H3 q1 (.tup [.int 0, .int v2])) q2 (.tup [.ref q1])) q3 (.tup [.str own, .int v1, .ref q2]) = H4 at ld4 dq3 ⊢
        clear dq1 dq2 sQ1 sQ2 sQ3 hq1 hq2 hq3 ld3 mv3 mv2 ld2
        obtain ⟨b1, b2, b3, b4, b5, hbC, f1, f2, f3, f4, f5⟩ := hous_parts ld4.dt
        obtain ⟨y5, hy5C, fy5C, ly5⟩ := tup_of f5
        rw [List.length_map] at ly5
        have hb := same_seqT cutP_sub hbC
        have hy5 := same_seqT cutP_sub hy5C
        refine ⟨_, rfl, t, _, 0, _, rfl, rfl, hb, rfl, ?_⟩
        refine ⟨_, rfl, t, _, 1, _, rfl, rfl, hb, rfl, ?_⟩
        refine ⟨_, rfl, t, _, 2, _, rfl, rfl, hb, rfl, ?_⟩
        refine ⟨_, rfl, t, _, 3, _, rfl, rfl, hb, rfl, ?_⟩
        refine ⟨_, rfl, t, _, 4, _, rfl, rfl, hb, rfl, _, rfl, (by show 1 ≤ sizeLine; omega), fun q4 hq4 => ?_⟩
        have sQ4 := same_upd (o := .tup [.ref q3]) hq4
        refine catA_of b5 q4 y5 [.ref q3] rfl rfl (same_seqT sQ4 hy5) (.inl (.inl upd_same)) (by rw [ly5]; show _ + 1 ≤ _; omega) (fun r4 H6 s6 h6 => ?_)
        have s46 := sQ4.trans s6
        have okO : OrdrOk h.goods.length ⟨own, v1, [(0, v2)]⟩ := ⟨v10, by show v1 ≤ 1000; omega, ⟨by show 1 ≤ 4; decide, fun q hq => by rw [List.mem_singleton.mp hq]; exact ld.ok.g0, fun q hq => by rw [List.mem_singleton.mp hq]; exact v20⟩⟩
        have ok' := withO_ok ld.ok c okO
        have dm : DpAll K H6 (y5 ++ [.ref q3]) ((h.withO ⟨own, v1, [(0, v2)]⟩).orders.map ordT) := by
          show DpAll K H6 _ ((h.orders ++ [_]).map ordT)
          rw [List.map_append]
          exact dpa_append (dpa_same s46 (dpa_same cutP_sub fy5C)) (.cons (dp_same s46 dq3) .nil)
        have dpa : DpAll K H6 [.ref b1, .ref b2, .ref b3, .ref b4, .ref r4] (housT (h.withO ⟨own, v1, [(0, v2)]⟩)) := .cons (dp_same s46 (dp_same cutP_sub f1)) (.cons (dp_same s46 (dp_same cutP_sub f2)) (.cons (dp_same s46 (dp_same cutP_sub f3)) (.cons (dp_same s46 (dp_same cutP_sub f4)) (.cons (.tup h6 dm) .nil))))
        have ld6 := ld4.same s46
        intro x dx hx0 hdx hne
        refine hinit_of (Q := fun _ H' => Same H6 H' ∧ HNew K C H6 H' x (h.withO ⟨own, v1, [(0, v2)]⟩)) hx0 hdx hne dpa ok' (fun H' s hn => ⟨s, hn⟩) (fun H13 z => ⟨rfl, ?_⟩)
        obtain ⟨s13, hn⟩ := z
        have hp6 : H6 p ≠ none := by
          obtain ⟨_, _, _, _, _, z⟩ := ld6.pool.there
          rw [z]
          exact fun z => by cases z
        have hh := hn p hp6
        have ld13 := ld6.same s13
        refine ⟨_, rfl, ?_⟩
        dsimp only [tNil]
        refine ⟨x, gA, h.withO ⟨own, v1, [(0, v2)]⟩, g, rfl, hh.same cutP_sub, ok', same_seqT cutP_sub ld13.sg, by omega, ld.gm, fun v H14 s14 bv => ?_⟩
        obtain ⟨y', hy', _⟩ := best_ok ok' g
        have le := best_ge hy (fun z f => mono_order (h := h) (h' := h.withO ⟨own, v1, [(0, v2)]⟩) rfl rfl rfl rfl f) hy'
        obtain ⟨c2, q2, r2, t2, rfl, j1, j2, j3, j4⟩ := bestV_some hy' bv
        refine ⟨c2, _, 0, _, rfl, rfl, j1, rfl, _, rfl, _, _, rfl, rfl, _, rfl, ?_⟩
        refine ifF (decide_eq_false (by omega)) ?_
        exact hk _
    · refine ifF (decide_eq_false (by omega)) ?_
      exact hk _
end

/-! ### law k12: the whole -/
section
variable {P : Program} {w : World} {K : PySem.W.Frag} {mg : Str → Option Value} {base : Heap} {f C : Addr} {fd : FuncData}
theorem ok_law12 (M : MB mg) (F : FnP K "law" s_law f fd) (C__law_pool : Callee P w K mg base CX0 "_law_pool" ["script", "budget"] 1 (spPool K)) (C__law_draw : Callee P w K mg base CX0 "_law_draw" ["pool", "size"] 1 spDraw) (C__law_house : Callee P w K mg base CX0 "_law_house" ["pool", "most", "large"] 4 (spHouse K))
    (C__law_made_house : Callee P w K mg base CX0 "_law_made_house" ["house"] 9 (spMade K C)) (C_best_plan : Callee P w K mg base CX0 "best_plan" ["house", "group"] 3 (spBest K C)) (C_earned : Callee P w K mg base CX0 "earned" ["house", "group", "plan"] 3 (spEarned K C)) (C__law_same : Callee P w K mg base CX0 "_law_same" ["actual", "due"] 2 (spSame K 1))
    (MH : MakeF P w K mg base CX0 "House" C ["self", "goods", "members", "talks", "recipes", "orders"] [] 7 (spHInit K C 5)) : FnOk P w K mg base CX0 11 f fd ["script"] (spLaw12 K) := by
  refine F.ok sc_law (fun vs H Q E h => ?_) (fun cdv A outer s H vs Q E hr h => ?_)
  · obtain ⟨a, ns, rfl, _⟩ := h
    rfl
  · obtain ⟨a, ns, rfl, hs, q⟩ := h
    obtain ⟨uD, hD, kD⟩ := law12_D (a := a) (w := w) (base := base) (H0 := H) (E := E) M C__law_draw C_best_plan MH hr
    obtain ⟨uC, hC, kC⟩ := law12_C (a := a) M C__law_draw C_best_plan MH hr hD
    obtain ⟨uB, hB, kB⟩ := law12_B (a := a) M C_best_plan C_earned C__law_same hr hC
    obtain ⟨uG, hG, kG⟩ := law12_G (a := a) (C := C) M C__law_draw hr hB
    obtain ⟨uA, hA, kA⟩ := law12_A (a := a) (ns := ns) M C__law_pool C__law_draw C__law_house C__law_made_house hr hG
    refine ⟨_, PSs.nox hA, ?_⟩
    exact kA _ none none none none none none none none none none none none none none none none none none H hs (fun σ1 H1 m1 => kG _ σ1 H1 m1 (fun σ2 H2 m2 => kB _ σ2 H2 m2 (fun σ3 H3 m3 => kC _ σ3 H3 m3 (fun σ4 H4 m4 => kD _ σ4 H4 m4 (fun H' => q H')))))
end

/-! ### law k12: what the head says -/
theorem callee_of {P : Program} {w : World} {K : PySem.W.Frag} {mg : Str → Option Value} {base : Heap} {CX : CXT} {x : Str} {st : Stmt} {ps : List Str} {k : Nat} {sp : Sp} {f : Addr} {fd : FuncData} (F : FnP K x st f fd) (g : mg x = some (.ref f))
    (b : ∀ (kV doc pm : Value) (an : Option Addr) (cdv ct : Value) (us : List Value), us.length = ps.length → bindArgs (PySem.W.fnOf x x (defArgs st) (defBody st) (defScope st) .none kV doc pm an cdv ct) ⟨us, []⟩ = pure (ps.zip us))
    (h : FnOk P w K mg base CX k f fd ps sp) : Callee P w K mg base CX x ps k sp := ⟨f, fd, g, F.kp, F.bindsN b, h⟩
def d_as_tuples : He.DefD := ⟨("as_tuples", none), "as_tuples", "as_tuples", defArgs s_as_tuples, defBody s_as_tuples, defScope s_as_tuples, [], []⟩
def d_ascending_tuples : He.DefD := ⟨("ascending_tuples", none), "ascending_tuples", "ascending_tuples", defArgs s_ascending_tuples, defBody s_ascending_tuples, defScope s_ascending_tuples, [], []⟩
def d_earned : He.DefD := ⟨("earned", none), "earned", "earned", defArgs s_earned, defBody s_earned, defScope s_earned, [], []⟩
def d_best_plan : He.DefD := ⟨("best_plan", none), "best_plan", "best_plan", defArgs s_best_plan, defBody s_best_plan, defScope s_best_plan, [], []⟩
def d__are_runs : He.DefD := ⟨("_are_runs", none), "_are_runs", "_are_runs", defArgs s__are_runs, defBody s__are_runs, defScope s__are_runs, [], []⟩
def d__are_filled : He.DefD := ⟨("_are_filled", none), "_are_filled", "_are_filled", defArgs s__are_filled, defBody s__are_filled, defScope s__are_filled, [], []⟩
def d__all_runs : He.DefD := ⟨("_all_runs", none), "_all_runs", "_all_runs", defArgs s__all_runs, defBody s__all_runs, defScope s__all_runs, [], []⟩
def d__all_filled : He.DefD := ⟨("_all_filled", none), "_all_filled", "_all_filled", defArgs s__all_filled, defBody s__all_filled, defScope s__all_filled, [], []⟩
def d__stock_after : He.DefD := ⟨("_stock_after", none), "_stock_after", "_stock_after", defArgs s__stock_after, defBody s__stock_after, defScope s__stock_after, [], []⟩
def d__has_needed : He.DefD := ⟨("_has_needed", none), "_has_needed", "_has_needed", defArgs s__has_needed, defBody s__has_needed, defScope s__has_needed, [], []⟩
def d__has_all : He.DefD := ⟨("_has_all", none), "_has_all", "_has_all", defArgs s__has_all, defBody s__has_all, defScope s__has_all, [], []⟩
def d__put : He.DefD := ⟨("_put", none), "_put", "_put", defArgs s__put, defBody s__put, defScope s__put, [], []⟩
def d__take : He.DefD := ⟨("_take", none), "_take", "_take", defArgs s__take, defBody s__take, defScope s__take, [], []⟩
def d__taken : He.DefD := ⟨("_taken", none), "_taken", "_taken", defArgs s__taken, defBody s__taken, defScope s__taken, [], []⟩
def d__pay : He.DefD := ⟨("_pay", none), "_pay", "_pay", defArgs s__pay, defBody s__pay, defScope s__pay, [], []⟩
def d__cost : He.DefD := ⟨("_cost", none), "_cost", "_cost", defArgs s__cost, defBody s__cost, defScope s__cost, [], []⟩
def d_House___init__ : He.DefD := ⟨("House", some "__init__"), "__init__", "House.__init__", defArgs s_House___init__, defBody s_House___init__, defScope s_House___init__, [], []⟩
def d_House___eq__ : He.DefD := ⟨("House", some "__eq__"), "__eq__", "House.__eq__", defArgs s_House___eq__, defBody s_House___eq__, defScope s_House___eq__, [], []⟩
def d__law_pool : He.DefD := ⟨("_law_pool", none), "_law_pool", "_law_pool", defArgs s__law_pool, defBody s__law_pool, defScope s__law_pool, [], []⟩
def d__law_draw : He.DefD := ⟨("_law_draw", none), "_law_draw", "_law_draw", defArgs s__law_draw, defBody s__law_draw, defScope s__law_draw, [], []⟩
def d__law_same : He.DefD := ⟨("_law_same", none), "_law_same", "_law_same", defArgs s__law_same, defBody s__law_same, defScope s__law_same, [], []⟩
def d__law_name : He.DefD := ⟨("_law_name", none), "_law_name", "_law_name", defArgs s__law_name, defBody s__law_name, defScope s__law_name, [], []⟩
def d__law_unlike : He.DefD := ⟨("_law_unlike", none), "_law_unlike", "_law_unlike", defArgs s__law_unlike, defBody s__law_unlike, defScope s__law_unlike, [], []⟩
def d__law_chosen : He.DefD := ⟨("_law_chosen", none), "_law_chosen", "_law_chosen", defArgs s__law_chosen, defBody s__law_chosen, defScope s__law_chosen, [], []⟩
def d__law_pairs : He.DefD := ⟨("_law_pairs", none), "_law_pairs", "_law_pairs", defArgs s__law_pairs, defBody s__law_pairs, defScope s__law_pairs, [], []⟩
def d__law_house : He.DefD := ⟨("_law_house", none), "_law_house", "_law_house", defArgs s__law_house, defBody s__law_house, defScope s__law_house, [], []⟩
def d__law_made_house : He.DefD := ⟨("_law_made_house", none), "_law_made_house", "_law_made_house", defArgs s__law_made_house, defBody s__law_made_house, defScope s__law_made_house, [], []⟩
def d_law : He.DefD := ⟨("law", none), "law", "law", defArgs s_law, defBody s_law, defScope s_law, [], []⟩
def fn : List He.DefD := [d_as_tuples, d_ascending_tuples, d_earned, d_best_plan, d__are_runs, d__are_filled, d__all_runs, d__all_filled, d__stock_after, d__has_needed, d__has_all, d__put, d__take, d__taken, d__pay, d__cost, d_House___init__, d_House___eq__, d__law_pool, d__law_draw, d__law_same, d__law_name, d__law_unlike, d__law_chosen, d__law_pairs, d__law_house, d__law_made_house, d_law]
def fa : List He.Fa := [.glo "as_tuples", .glo "ascending_tuples", .glo "earned", .glo "best_plan", .glo "_are_runs", .glo "_are_filled", .glo "_all_runs", .glo "_all_filled", .glo "_stock_after", .glo "_has_needed", .glo "_has_all", .glo "_put", .glo "_take", .glo "_taken", .glo "_pay", .glo "_cost", .glo "_law_pool", .glo "_law_draw", .glo "_law_same", .glo "_law_name", .glo "_law_unlike", .glo "_law_chosen", .glo "_law_pairs", .glo "_law_house", .glo "_law_made_house", .glo "law", .free "len", .free "list", .free "tuple", .free "int", .free "str", .free "bool", .free "abs", .free "range", .free "isinstance", .free "min", .free "all", .free "ValueError", .free "zip", .free "sum", .free "reversed", .free "enumerate", .cls "House", .noat "House" "goods", .noat "House" "members", .noat "House" "talks", .noat "House" "recipes", .noat "House" "orders", .mkr "House", .glo "House"]
theorem end_of {P : Program} {w : World} {K : PySem.W.Frag} {h : Heap} {mg : Str → Option Value} {fa0 : Addr} (X : K.In h) (G : h.Ns mainGlobals mg) (hfa : mg ("law" : Str) = some (.ref fa0)) (c : He.SaysD fa fn K) :
    ∃ fd : FuncData, (∀ (s : Shared) (v : Value), BindsTo s fd ⟨[v], []⟩ [("script", v)]) ∧ ∀ base : Heap, K.In base → base.Ns mainGlobals mg → FnOk P w K mg base CX0 11 fa0 fd ["script"] (spLaw12 K) := by
  obtain ⟨fd_as_tuples, F0_as_tuples⟩ := c.def_ 0 (d := d_as_tuples) rfl
  have F_as_tuples : FnP K "as_tuples" s_as_tuples (He.ga K "as_tuples") fd_as_tuples := F0_as_tuples
  obtain ⟨fd_ascending_tuples, F0_ascending_tuples⟩ := c.def_ 1 (d := d_ascending_tuples) rfl
  have F_ascending_tuples : FnP K "ascending_tuples" s_ascending_tuples (He.ga K "ascending_tuples") fd_ascending_tuples := F0_ascending_tuples
  obtain ⟨fd_earned, F0_earned⟩ := c.def_ 2 (d := d_earned) rfl
  have F_earned : FnP K "earned" s_earned (He.ga K "earned") fd_earned := F0_earned
  obtain ⟨fd_best_plan, F0_best_plan⟩ := c.def_ 3 (d := d_best_plan) rfl
  have F_best_plan : FnP K "best_plan" s_best_plan (He.ga K "best_plan") fd_best_plan := F0_best_plan
  obtain ⟨fd__are_runs, F0__are_runs⟩ := c.def_ 4 (d := d__are_runs) rfl
  have F__are_runs : FnP K "_are_runs" s__are_runs (He.ga K "_are_runs") fd__are_runs := F0__are_runs
  obtain ⟨fd__are_filled, F0__are_filled⟩ := c.def_ 5 (d := d__are_filled) rfl
  have F__are_filled : FnP K "_are_filled" s__are_filled (He.ga K "_are_filled") fd__are_filled := F0__are_filled
  obtain ⟨fd__all_runs, F0__all_runs⟩ := c.def_ 6 (d := d__all_runs) rfl
  have F__all_runs : FnP K "_all_runs" s__all_runs (He.ga K "_all_runs") fd__all_runs := F0__all_runs
  obtain ⟨fd__all_filled, F0__all_filled⟩ := c.def_ 7 (d := d__all_filled) rfl
  have F__all_filled : FnP K "_all_filled" s__all_filled (He.ga K "_all_filled") fd__all_filled := F0__all_filled
  obtain ⟨fd__stock_after, F0__stock_after⟩ := c.def_ 8 (d := d__stock_after) rfl
  have F__stock_after : FnP K "_stock_after" s__stock_after (He.ga K "_stock_after") fd__stock_after := F0__stock_after
  obtain ⟨fd__has_needed, F0__has_needed⟩ := c.def_ 9 (d := d__has_needed) rfl
  have F__has_needed : FnP K "_has_needed" s__has_needed (He.ga K "_has_needed") fd__has_needed := F0__has_needed
  obtain ⟨fd__has_all, F0__has_all⟩ := c.def_ 10 (d := d__has_all) rfl
  have F__has_all : FnP K "_has_all" s__has_all (He.ga K "_has_all") fd__has_all := F0__has_all
  obtain ⟨fd__put, F0__put⟩ := c.def_ 11 (d := d__put) rfl
  have F__put : FnP K "_put" s__put (He.ga K "_put") fd__put := F0__put
  obtain ⟨fd__take, F0__take⟩ := c.def_ 12 (d := d__take) rfl
  have F__take : FnP K "_take" s__take (He.ga K "_take") fd__take := F0__take
  obtain ⟨fd__taken, F0__taken⟩ := c.def_ 13 (d := d__taken) rfl
  have F__taken : FnP K "_taken" s__taken (He.ga K "_taken") fd__taken := F0__taken
  obtain ⟨fd__pay, F0__pay⟩ := c.def_ 14 (d := d__pay) rfl
  have F__pay : FnP K "_pay" s__pay (He.ga K "_pay") fd__pay := F0__pay
  obtain ⟨fd__cost, F0__cost⟩ := c.def_ 15 (d := d__cost) rfl
  have F__cost : FnP K "_cost" s__cost (He.ga K "_cost") fd__cost := F0__cost
  obtain ⟨fd_House___init__, F0_House___init__⟩ := c.def_ 16 (d := d_House___init__) rfl
  have F_House___init__ : FnM K "__init__" "House.__init__" s_House___init__ [] (He.ma K (He.ga K "House") "__init__") fd_House___init__ := F0_House___init__
  obtain ⟨fd_House___eq__, F0_House___eq__⟩ := c.def_ 17 (d := d_House___eq__) rfl
  have F_House___eq__ : FnM K "__eq__" "House.__eq__" s_House___eq__ [] (He.ma K (He.ga K "House") "__eq__") fd_House___eq__ := F0_House___eq__
  obtain ⟨fd__law_pool, F0__law_pool⟩ := c.def_ 18 (d := d__law_pool) rfl
  have F__law_pool : FnP K "_law_pool" s__law_pool (He.ga K "_law_pool") fd__law_pool := F0__law_pool
  obtain ⟨fd__law_draw, F0__law_draw⟩ := c.def_ 19 (d := d__law_draw) rfl
  have F__law_draw : FnP K "_law_draw" s__law_draw (He.ga K "_law_draw") fd__law_draw := F0__law_draw
  obtain ⟨fd__law_same, F0__law_same⟩ := c.def_ 20 (d := d__law_same) rfl
  have F__law_same : FnP K "_law_same" s__law_same (He.ga K "_law_same") fd__law_same := F0__law_same
  obtain ⟨fd__law_name, F0__law_name⟩ := c.def_ 21 (d := d__law_name) rfl
  have F__law_name : FnP K "_law_name" s__law_name (He.ga K "_law_name") fd__law_name := F0__law_name
  obtain ⟨fd__law_unlike, F0__law_unlike⟩ := c.def_ 22 (d := d__law_unlike) rfl
  have F__law_unlike : FnP K "_law_unlike" s__law_unlike (He.ga K "_law_unlike") fd__law_unlike := F0__law_unlike
  obtain ⟨fd__law_chosen, F0__law_chosen⟩ := c.def_ 23 (d := d__law_chosen) rfl
  have F__law_chosen : FnP K "_law_chosen" s__law_chosen (He.ga K "_law_chosen") fd__law_chosen := F0__law_chosen
  obtain ⟨fd__law_pairs, F0__law_pairs⟩ := c.def_ 24 (d := d__law_pairs) rfl
  have F__law_pairs : FnP K "_law_pairs" s__law_pairs (He.ga K "_law_pairs") fd__law_pairs := F0__law_pairs
  obtain ⟨fd__law_house, F0__law_house⟩ := c.def_ 25 (d := d__law_house) rfl
  have F__law_house : FnP K "_law_house" s__law_house (He.ga K "_law_house") fd__law_house := F0__law_house
  obtain ⟨fd__law_made_house, F0__law_made_house⟩ := c.def_ 26 (d := d__law_made_house) rfl
  have F__law_made_house : FnP K "_law_made_house" s__law_made_house (He.ga K "_law_made_house") fd__law_made_house := F0__law_made_house
  obtain ⟨fd_law, F0_law⟩ := c.def_ 27 (d := d_law) rfl
  have F_law : FnP K "law" s_law (He.ga K "law") fd_law := F0_law
  have gl_as_tuples : mg "as_tuples" = some (.ref (He.ga K "as_tuples")) := He.glo_ok X G (c.fact 0 (f := .glo "as_tuples") rfl)
  have gl_ascending_tuples : mg "ascending_tuples" = some (.ref (He.ga K "ascending_tuples")) := He.glo_ok X G (c.fact 1 (f := .glo "ascending_tuples") rfl)
  have gl_earned : mg "earned" = some (.ref (He.ga K "earned")) := He.glo_ok X G (c.fact 2 (f := .glo "earned") rfl)
  have gl_best_plan : mg "best_plan" = some (.ref (He.ga K "best_plan")) := He.glo_ok X G (c.fact 3 (f := .glo "best_plan") rfl)
  have gl__are_runs : mg "_are_runs" = some (.ref (He.ga K "_are_runs")) := He.glo_ok X G (c.fact 4 (f := .glo "_are_runs") rfl)
  have gl__are_filled : mg "_are_filled" = some (.ref (He.ga K "_are_filled")) := He.glo_ok X G (c.fact 5 (f := .glo "_are_filled") rfl)
  have gl__all_runs : mg "_all_runs" = some (.ref (He.ga K "_all_runs")) := He.glo_ok X G (c.fact 6 (f := .glo "_all_runs") rfl)
  have gl__all_filled : mg "_all_filled" = some (.ref (He.ga K "_all_filled")) := He.glo_ok X G (c.fact 7 (f := .glo "_all_filled") rfl)
  have gl__stock_after : mg "_stock_after" = some (.ref (He.ga K "_stock_after")) := He.glo_ok X G (c.fact 8 (f := .glo "_stock_after") rfl)
  have gl__has_needed : mg "_has_needed" = some (.ref (He.ga K "_has_needed")) := He.glo_ok X G (c.fact 9 (f := .glo "_has_needed") rfl)
  have gl__has_all : mg "_has_all" = some (.ref (He.ga K "_has_all")) := He.glo_ok X G (c.fact 10 (f := .glo "_has_all") rfl)
  have gl__put : mg "_put" = some (.ref (He.ga K "_put")) := He.glo_ok X G (c.fact 11 (f := .glo "_put") rfl)
  have gl__take : mg "_take" = some (.ref (He.ga K "_take")) := He.glo_ok X G (c.fact 12 (f := .glo "_take") rfl)
  have gl__taken : mg "_taken" = some (.ref (He.ga K "_taken")) := He.glo_ok X G (c.fact 13 (f := .glo "_taken") rfl)
  have gl__pay : mg "_pay" = some (.ref (He.ga K "_pay")) := He.glo_ok X G (c.fact 14 (f := .glo "_pay") rfl)
  have gl__cost : mg "_cost" = some (.ref (He.ga K "_cost")) := He.glo_ok X G (c.fact 15 (f := .glo "_cost") rfl)
  have gl__law_pool : mg "_law_pool" = some (.ref (He.ga K "_law_pool")) := He.glo_ok X G (c.fact 16 (f := .glo "_law_pool") rfl)
  have gl__law_draw : mg "_law_draw" = some (.ref (He.ga K "_law_draw")) := He.glo_ok X G (c.fact 17 (f := .glo "_law_draw") rfl)
  have gl__law_same : mg "_law_same" = some (.ref (He.ga K "_law_same")) := He.glo_ok X G (c.fact 18 (f := .glo "_law_same") rfl)
  have gl__law_name : mg "_law_name" = some (.ref (He.ga K "_law_name")) := He.glo_ok X G (c.fact 19 (f := .glo "_law_name") rfl)
  have gl__law_unlike : mg "_law_unlike" = some (.ref (He.ga K "_law_unlike")) := He.glo_ok X G (c.fact 20 (f := .glo "_law_unlike") rfl)
  have gl__law_chosen : mg "_law_chosen" = some (.ref (He.ga K "_law_chosen")) := He.glo_ok X G (c.fact 21 (f := .glo "_law_chosen") rfl)
  have gl__law_pairs : mg "_law_pairs" = some (.ref (He.ga K "_law_pairs")) := He.glo_ok X G (c.fact 22 (f := .glo "_law_pairs") rfl)
  have gl__law_house : mg "_law_house" = some (.ref (He.ga K "_law_house")) := He.glo_ok X G (c.fact 23 (f := .glo "_law_house") rfl)
  have gl__law_made_house : mg "_law_made_house" = some (.ref (He.ga K "_law_made_house")) := He.glo_ok X G (c.fact 24 (f := .glo "_law_made_house") rfl)
  have gl_law : mg "law" = some (.ref (He.ga K "law")) := He.glo_ok X G (c.fact 25 (f := .glo "law") rfl)
  have fr_len : mg "len" = none := He.free_ok X G (c.fact 26 (f := .free "len") rfl)
  have fr_list : mg "list" = none := He.free_ok X G (c.fact 27 (f := .free "list") rfl)
  have fr_tuple : mg "tuple" = none := He.free_ok X G (c.fact 28 (f := .free "tuple") rfl)
  have fr_int : mg "int" = none := He.free_ok X G (c.fact 29 (f := .free "int") rfl)
  have fr_str : mg "str" = none := He.free_ok X G (c.fact 30 (f := .free "str") rfl)
  have fr_bool : mg "bool" = none := He.free_ok X G (c.fact 31 (f := .free "bool") rfl)
  have fr_abs : mg "abs" = none := He.free_ok X G (c.fact 32 (f := .free "abs") rfl)
  have fr_range : mg "range" = none := He.free_ok X G (c.fact 33 (f := .free "range") rfl)
  have fr_isinstance : mg "isinstance" = none := He.free_ok X G (c.fact 34 (f := .free "isinstance") rfl)
  have fr_min : mg "min" = none := He.free_ok X G (c.fact 35 (f := .free "min") rfl)
  have fr_all : mg "all" = none := He.free_ok X G (c.fact 36 (f := .free "all") rfl)
  have fr_ValueError : mg "ValueError" = none := He.free_ok X G (c.fact 37 (f := .free "ValueError") rfl)
  have fr_zip : mg "zip" = none := He.free_ok X G (c.fact 38 (f := .free "zip") rfl)
  have fr_sum : mg "sum" = none := He.free_ok X G (c.fact 39 (f := .free "sum") rfl)
  have fr_reversed : mg "reversed" = none := He.free_ok X G (c.fact 40 (f := .free "reversed") rfl)
  have fr_enumerate : mg "enumerate" = none := He.free_ok X G (c.fact 41 (f := .free "enumerate") rfl)
  have cl_House := He.cls_ok (c.fact 42 (f := .cls "House") rfl)
  have na_House_goods := He.noat_ok (c.fact 43 (f := .noat "House" "goods") rfl)
  have na_House_members := He.noat_ok (c.fact 44 (f := .noat "House" "members") rfl)
  have na_House_talks := He.noat_ok (c.fact 45 (f := .noat "House" "talks") rfl)
  have na_House_recipes := He.noat_ok (c.fact 46 (f := .noat "House" "recipes") rfl)
  have na_House_orders := He.noat_ok (c.fact 47 (f := .noat "House" "orders") rfl)
  have mk_House := He.mkr_ok (c.fact 48 (f := .mkr "House") rfl)
  have gl_House : mg "House" = some (.ref (He.ga K "House")) := He.glo_ok X G (c.fact 49 (f := .glo "House") rfl)
  have M : MB mg := ⟨fr_len, fr_list, fr_tuple, fr_int, fr_str, fr_bool, fr_abs, fr_range, fr_isinstance, fr_min, fr_all, fr_ValueError, fr_zip, fr_sum, fr_reversed, fr_enumerate⟩
  have e := hfa.symm.trans gl_law
  cases e
  let CH : Addr := He.ga K "House"
  have TH : HouT K mg CH := { cl := cl_House, n1 := na_House_goods, n2 := na_House_members, n3 := na_House_talks, n4 := na_House_recipes, n5 := na_House_orders, gC := gl_House }
  have b := FunD.bindsA (ps := ["script"]) F_law fun _ _ _ _ _ _ us hl => match us, hl with | [_], _ => rfl
  refine ⟨fd_law, fun s v => b s [v] rfl, fun base _ _ => ?_⟩
  have c_as_tuples : Callee P w K mg base CX0 "as_tuples" ["part"] 6 (spTuples K 5) := callee_of F_as_tuples gl_as_tuples (fun _ _ _ _ _ _ us hl => match us, hl with | [_], _ => rfl) (ok_as_tuples M F_as_tuples gl_as_tuples 5)
  have oi : FnOk P w K mg base CX0 7 (He.ma K (He.ga K "House") "__init__") fd_House___init__ ["self", "goods", "members", "talks", "recipes", "orders"] (spHInit K CH 5) := ok_House_init TH 5 F_House___init__ c_as_tuples
  have MH : MakeF P w K mg base CX0 "House" CH ["self", "goods", "members", "talks", "recipes", "orders"] [] 7 (spHInit K CH 5) :=
    ⟨gl_House, _, _, [], mk_House, .nil, F_House___init__.bindsN fun _ _ _ _ _ _ us hl => match us, hl with | [_, _, _, _, _, _], _ => rfl, oi⟩
  have c__law_pool : Callee P w K mg base CX0 "_law_pool" ["script", "budget"] 1 (spPool K) := callee_of F__law_pool gl__law_pool (fun _ _ _ _ _ _ us hl => match us, hl with | [_, _], _ => rfl) (ok__law_pool M F__law_pool)
  have c__law_draw : Callee P w K mg base CX0 "_law_draw" ["pool", "size"] 1 spDraw := callee_of F__law_draw gl__law_draw (fun _ _ _ _ _ _ us hl => match us, hl with | [_, _], _ => rfl) (ok__law_draw M F__law_draw)
  have c__law_same : Callee P w K mg base CX0 "_law_same" ["actual", "due"] 2 (spSame K 1) := callee_of F__law_same gl__law_same (fun _ _ _ _ _ _ us hl => match us, hl with | [_, _], _ => rfl) (ok__law_same M F__law_same gl__law_same 1)
  have c__law_name : Callee P w K mg base CX0 "_law_name" ["pool"] 2 spName := callee_of F__law_name gl__law_name (fun _ _ _ _ _ _ us hl => match us, hl with | [_], _ => rfl) (ok__law_name M F__law_name c__law_draw)
  have c__law_unlike : Callee P w K mg base CX0 "_law_unlike" ["pool", "count"] 3 spUnlike := callee_of F__law_unlike gl__law_unlike (fun _ _ _ _ _ _ us hl => match us, hl with | [_, _], _ => rfl) (ok__law_unlike M F__law_unlike c__law_name)
  have c__law_chosen : Callee P w K mg base CX0 "_law_chosen" ["pool", "count", "most"] 2 spChosen := callee_of F__law_chosen gl__law_chosen (fun _ _ _ _ _ _ us hl => match us, hl with | [_, _, _], _ => rfl) (ok__law_chosen M F__law_chosen c__law_draw)
  have c__law_pairs : Callee P w K mg base CX0 "_law_pairs" ["pool", "count", "most", "large"] 3 (spPairs K) := callee_of F__law_pairs gl__law_pairs (fun _ _ _ _ _ _ us hl => match us, hl with | [_, _, _, _], _ => rfl) (ok__law_pairs M F__law_pairs c__law_draw c__law_chosen)
  have c__law_house : Callee P w K mg base CX0 "_law_house" ["pool", "most", "large"] 4 (spHouse K) := callee_of F__law_house gl__law_house (fun _ _ _ _ _ _ us hl => match us, hl with | [_, _, _], _ => rfl) (ok__law_house M F__law_house c__law_draw c__law_chosen c__law_unlike c__law_pairs)
  have c__put : Callee P w K mg base CX0 "_put" ["stock", "amounts"] 1 (spPut K putL) := callee_of F__put gl__put (fun _ _ _ _ _ _ us hl => match us, hl with | [_, _], _ => rfl) (ok__put F__put)
  have c__take : Callee P w K mg base CX0 "_take" ["stock", "amounts"] 1 (spPut K takeL) := callee_of F__take gl__take (fun _ _ _ _ _ _ us hl => match us, hl with | [_, _], _ => rfl) (ok__take F__take)
  have c__has_all : Callee P w K mg base CX0 "_has_all" ["stock", "amounts"] 1 (spHasAll K) := callee_of F__has_all gl__has_all (fun _ _ _ _ _ _ us hl => match us, hl with | [_, _], _ => rfl) (ok__has_all M F__has_all)
  have c__has_needed : Callee P w K mg base CX0 "_has_needed" ["group", "recipe"] 1 (spNeeded K) := callee_of F__has_needed gl__has_needed (fun _ _ _ _ _ _ us hl => match us, hl with | [_, _], _ => rfl) (ok__has_needed M F__has_needed)
  have c__stock_after : Callee P w K mg base CX0 "_stock_after" ["house", "group", "runs"] 2 (spAfter K CH) := callee_of F__stock_after gl__stock_after (fun _ _ _ _ _ _ us hl => match us, hl with | [_, _, _], _ => rfl) (ok__stock_after TH M F__stock_after c__put c__take c__has_all c__has_needed)
  have c__taken : Callee P w K mg base CX0 "_taken" ["house", "filled"] 2 (spTaken K CH) := callee_of F__taken gl__taken (fun _ _ _ _ _ _ us hl => match us, hl with | [_, _], _ => rfl) (ok__taken TH M F__taken c__put)
  have c__pay : Callee P w K mg base CX0 "_pay" ["house", "filled"] 1 (spPay K CH) := callee_of F__pay gl__pay (fun _ _ _ _ _ _ us hl => match us, hl with | [_, _], _ => rfl) (ok__pay TH M F__pay)
  have c__cost : Callee P w K mg base CX0 "_cost" ["house", "runs"] 1 (spCost K CH) := callee_of F__cost gl__cost (fun _ _ _ _ _ _ us hl => match us, hl with | [_, _], _ => rfl) (ok__cost TH M F__cost)
  have c__are_runs : Callee P w K mg base CX0 "_are_runs" ["house", "runs"] 1 (spAreRuns K CH) := callee_of F__are_runs gl__are_runs (fun _ _ _ _ _ _ us hl => match us, hl with | [_, _], _ => rfl) (ok__are_runs TH M F__are_runs)
  have c__are_filled : Callee P w K mg base CX0 "_are_filled" ["house", "filled"] 1 (spAreFilled K CH) := callee_of F__are_filled gl__are_filled (fun _ _ _ _ _ _ us hl => match us, hl with | [_, _], _ => rfl) (ok__are_filled TH M F__are_filled)
  have c_ascending_tuples : Callee P w K mg base CX0 "ascending_tuples" ["count"] 1 (spAsc K) := callee_of F_ascending_tuples gl_ascending_tuples (fun _ _ _ _ _ _ us hl => match us, hl with | [_], _ => rfl) (ok_ascending_tuples M F_ascending_tuples)
  have c__all_filled : Callee P w K mg base CX0 "_all_filled" ["house"] 2 (spAllFilled K CH) := callee_of F__all_filled gl__all_filled (fun _ _ _ _ _ _ us hl => match us, hl with | [_], _ => rfl) (ok__all_filled TH M F__all_filled c_ascending_tuples)
  have c__all_runs : Callee P w K mg base CX0 "_all_runs" ["house"] 1 (spAllRuns K CH) := callee_of F__all_runs gl__all_runs (fun _ _ _ _ _ _ us hl => match us, hl with | [_], _ => rfl) (ok__all_runs TH M F__all_runs)
  have c_best_plan : Callee P w K mg base CX0 "best_plan" ["house", "group"] 3 (spBest K CH) := callee_of F_best_plan gl_best_plan (fun _ _ _ _ _ _ us hl => match us, hl with | [_, _], _ => rfl) (ok_best_plan TH M F_best_plan c__all_filled c__taken c__pay c__all_runs c__stock_after c__cost c__has_all)
  have c_earned : Callee P w K mg base CX0 "earned" ["house", "group", "plan"] 3 (spEarned K CH) := callee_of F_earned gl_earned (fun _ _ _ _ _ _ us hl => match us, hl with | [_, _, _], _ => rfl) (ok_earned TH M F_earned c__are_runs c__are_filled c__taken c__pay c__stock_after c__cost c__has_all)
  have c__law_made_house : Callee P w K mg base CX0 "_law_made_house" ["house"] 9 (spMade K CH) := callee_of F__law_made_house gl__law_made_house (fun _ _ _ _ _ _ us hl => match us, hl with | [_], _ => rfl) (ok__law_made_house F__law_made_house MH)
  exact ok_law12 M F_law c__law_pool c__law_draw c__law_house c__law_made_house c_best_plan c_earned c__law_same MH

end NG
open PySem PySem.W PyProof.Rows
set_option maxHeartbeats 0 in
theorem PySem.Challenge.cw_nogroupleaves_k12_whole_more_members_ear_holds : PySem.Challenge.rw_nogroupleaves_k12_whole_more_members_ear.Holds := by
  refine NG.hd ?_
  k_fill
  refine L2.walk_of (l := PySem.Challenge.rw_nogroupleaves_k12_whole_more_members_ear) (n := 63) (k := 11) (x := "script") (CX := fun _ => L2.CX0) (sp := fun w => NG.spLaw12 _) rfl (by decide) rfl ⟨rfl, by decide, by decide⟩ (fun w h Y => PySem.W.kIn_of Y) ?F (fun _ _ a ns hl _ hS => ⟨a, ns, rfl, hS, fun _ => rfl⟩) (fun _ _ _ _ _ h => h)
  case F =>
    intro w mg fa h KX G hmg
    have c : He.SaysD NG.fa NG.fn (L2.KOf KX) := by
      show He.obsD NG.fa NG.fn (L2.KOf KX) = He.valD NG.fn
      kernel_rfl
    exact NG.end_of KX G hmg c
