import PyProof.Rows.All
import Wide.All
import OpenK.AllK
import Wide.FinOn
import PySem.Challenge.RW_nogroupleaves_k03_bounds_of_houses
import HandS.ForMost
import HandS.Defaults
import HandS.IsInst
import HandS.Wide
import HandS.Gcd
import HandS.FStr
import HandS.Evl
import HandS.TupAny
import HandS.WordsExc
import HandS.ExcIs
import HandS.MakeKw
import HandS.MakeKwOnly
import HandS.SlotsOwn
import HandS.HeadHook2
import KE.KCallOwn

import HandS.ExcInit
import HandS.ExcSuper
import HandS.Walk
import HandS.Conv
import HandS.SetFor
import KE.KExcSuper
import KE.IntTextLaws
import KE.DataFind
import PyProof.P3Eq
set_option Elab.async false
set_option linter.all false
set_option maxRecDepth 100000
set_option maxHeartbeats 4000000
set_option pp.deepTerms false
set_option pp.deepTerms.threshold 6
set_option pp.maxSteps 600

namespace NG
section
open PySem PySem.W PyProof.Rows
set_option maxHeartbeats 0
open_top hd for PySem.Challenge.rw_nogroupleaves_k03_bounds_of_houses
end
open PySem PySem.Spec PyProof.Rows L2
def topS (i : Nat) : Stmt := PySem.Challenge.pw_nogroupleaves_k03_bounds_of_houses.main.body.getD i (.Pass ⟨0, 0, 0, 0⟩)
abbrev s_as_tuples : Stmt := topS 1
abbrev N_as_tuples : List Str := ["part", "item"]
theorem sc_as_tuples : FnScope N_as_tuples ["part"] (defScope s_as_tuples) := ⟨rfl, rfl, rfl, by decide +kernel, rfl, by decide +kernel, by decide +kernel⟩
abbrev s_House___init__ : Stmt := inClass (topS 15) 0
abbrev N_House___init__ : List Str := ["self", "goods", "members", "talks", "recipes", "orders"]
theorem sc_House___init__ : FnScope N_House___init__ ["self", "goods", "members", "talks", "recipes", "orders"] (defScope s_House___init__) := ⟨rfl, rfl, rfl, by decide +kernel, rfl, by decide +kernel, by decide +kernel⟩
abbrev s_House___eq__ : Stmt := inClass (topS 15) 1
abbrev N_House___eq__ : List Str := ["self", "other"]
theorem sc_House___eq__ : FnScope N_House___eq__ ["self", "other"] (defScope s_House___eq__) := ⟨rfl, rfl, rfl, by decide +kernel, rfl, by decide +kernel, by decide +kernel⟩
abbrev s_house_text : Stmt := topS 16
abbrev N_house_text : List Str := ["house", "names", "words", "name", "holdings", "first", "second", "recipe", "pay", "takes"]
theorem sc_house_text : FnScope N_house_text ["house"] (defScope s_house_text) := ⟨rfl, rfl, rfl, by decide +kernel, rfl, by decide +kernel, by decide +kernel⟩
abbrev s__recipe_words : Stmt := topS 17
abbrev N__recipe_words : List Str := ["goods", "names", "recipe", "name", "cost", "times", "needs", "takes", "gives", "words", "member"]
theorem sc__recipe_words : FnScope N__recipe_words ["goods", "names", "recipe"] (defScope s__recipe_words) := ⟨rfl, rfl, rfl, by decide +kernel, rfl, by decide +kernel, by decide +kernel⟩
abbrev s__amount_words : Stmt := topS 18
abbrev N__amount_words : List Str := ["key", "goods", "amounts", "words", "good", "number"]
theorem sc__amount_words : FnScope N__amount_words ["key", "goods", "amounts"] (defScope s__amount_words) := ⟨rfl, rfl, rfl, by decide +kernel, rfl, by decide +kernel, by decide +kernel⟩
abbrev s_read_house : Stmt := topS 19
abbrev N_read_house : List Str := ["text", "words", "goods", "at", "members", "names", "talks", "recipes", "orders"]
theorem sc_read_house : FnScope N_read_house ["text"] (defScope s_read_house) := ⟨rfl, rfl, rfl, by decide +kernel, rfl, by decide +kernel, by decide +kernel⟩
abbrev s__read_goods : Stmt := topS 20
abbrev N__read_goods : List Str := ["words", "goods", "at"]
theorem sc__read_goods : FnScope N__read_goods ["words"] (defScope s__read_goods) := ⟨rfl, rfl, rfl, by decide +kernel, rfl, by decide +kernel, by decide +kernel⟩
abbrev s__read_members : Stmt := topS 21
abbrev N__read_members : List Str := ["words", "at", "goods", "members", "name", "holdings"]
theorem sc__read_members : FnScope N__read_members ["words", "at", "goods"] (defScope s__read_members) := ⟨rfl, rfl, rfl, by decide +kernel, rfl, by decide +kernel, by decide +kernel⟩
abbrev s__read_talks : Stmt := topS 22
abbrev N__read_talks : List Str := ["words", "at", "names", "count", "left", "talks", "first", "second", "a", "b", "pair"]
theorem sc__read_talks : FnScope N__read_talks ["words", "at", "names"] (defScope s__read_talks) := ⟨rfl, rfl, rfl, by decide +kernel, rfl, by decide +kernel, by decide +kernel⟩
abbrev s__read_recipes : Stmt := topS 23
abbrev N__read_recipes : List Str := ["words", "at", "goods", "names", "recipes", "recipe"]
theorem sc__read_recipes : FnScope N__read_recipes ["words", "at", "goods", "names"] (defScope s__read_recipes) := ⟨rfl, rfl, rfl, by decide +kernel, rfl, by decide +kernel, by decide +kernel⟩
abbrev s__read_recipe : Stmt := topS 24
abbrev N__read_recipe : List Str := ["words", "at", "taken", "goods", "names", "name", "cost", "times", "needs", "takes", "gives"]
theorem sc__read_recipe : FnScope N__read_recipe ["words", "at", "taken", "goods", "names"] (defScope s__read_recipe) := ⟨rfl, rfl, rfl, by decide +kernel, rfl, by decide +kernel, by decide +kernel⟩
abbrev s__read_needs : Stmt := topS 25
abbrev N__read_needs : List Str := ["words", "at", "names", "left", "needs", "member"]
theorem sc__read_needs : FnScope N__read_needs ["words", "at", "names"] (defScope s__read_needs) := ⟨rfl, rfl, rfl, by decide +kernel, rfl, by decide +kernel, by decide +kernel⟩
abbrev s__read_orders : Stmt := topS 26
abbrev N__read_orders : List Str := ["words", "at", "goods", "orders", "name", "pay", "takes"]
theorem sc__read_orders : FnScope N__read_orders ["words", "at", "goods"] (defScope s__read_orders) := ⟨rfl, rfl, rfl, by decide +kernel, rfl, by decide +kernel, by decide +kernel⟩
abbrev s__read_amounts : Stmt := topS 27
abbrev N__read_amounts : List Str := ["words", "at", "key", "goods", "left", "amounts", "good"]
theorem sc__read_amounts : FnScope N__read_amounts ["words", "at", "key", "goods"] (defScope s__read_amounts) := ⟨rfl, rfl, rfl, by decide +kernel, rfl, by decide +kernel, by decide +kernel⟩
abbrev s__names_of : Stmt := topS 28
abbrev N__names_of : List Str := ["parts", "part"]
theorem sc__names_of : FnScope N__names_of ["parts"] (defScope s__names_of) := ⟨rfl, rfl, rfl, by decide +kernel, rfl, by decide +kernel, by decide +kernel⟩
abbrev s__word_at : Stmt := topS 29
abbrev N__word_at : List Str := ["words", "at"]
theorem sc__word_at : FnScope N__word_at ["words", "at"] (defScope s__word_at) := ⟨rfl, rfl, rfl, by decide +kernel, rfl, by decide +kernel, by decide +kernel⟩
abbrev s__word_is : Stmt := topS 30
abbrev N__word_is : List Str := ["words", "at", "word"]
theorem sc__word_is : FnScope N__word_is ["words", "at", "word"] (defScope s__word_is) := ⟨rfl, rfl, rfl, by decide +kernel, rfl, by decide +kernel, by decide +kernel⟩
abbrev s__expect : Stmt := topS 31
abbrev N__expect : List Str := ["words", "at", "word"]
theorem sc__expect : FnScope N__expect ["words", "at", "word"] (defScope s__expect) := ⟨rfl, rfl, rfl, by decide +kernel, rfl, by decide +kernel, by decide +kernel⟩
abbrev s__new_name : Stmt := topS 32
abbrev N__new_name : List Str := ["words", "at", "taken", "word"]
theorem sc__new_name : FnScope N__new_name ["words", "at", "taken"] (defScope s__new_name) := ⟨rfl, rfl, rfl, by decide +kernel, rfl, by decide +kernel, by decide +kernel⟩
abbrev s__one_of : Stmt := topS 33
abbrev N__one_of : List Str := ["words", "at", "names", "indexes", "index"]
theorem sc__one_of : FnScope N__one_of ["words", "at", "names", "indexes"] (defScope s__one_of) := ⟨rfl, rfl, rfl, by decide +kernel, rfl, by decide +kernel, by decide +kernel⟩
abbrev s__number : Stmt := topS 34
abbrev N__number : List Str := ["words", "at", "word"]
theorem sc__number : FnScope N__number ["words", "at"] (defScope s__number) := ⟨rfl, rfl, rfl, by decide +kernel, rfl, by decide +kernel, by decide +kernel⟩
abbrev s__is_name : Stmt := topS 35
abbrev N__is_name : List Str := ["word", "sign"]
theorem sc__is_name : FnScope N__is_name ["word"] (defScope s__is_name) := ⟨rfl, rfl, rfl, by decide +kernel, rfl, by decide +kernel, by decide +kernel⟩
abbrev s__is_number : Stmt := topS 36
abbrev N__is_number : List Str := ["word", "sign"]
theorem sc__is_number : FnScope N__is_number ["word"] (defScope s__is_number) := ⟨rfl, rfl, rfl, by decide +kernel, rfl, by decide +kernel, by decide +kernel⟩
abbrev s__law_pool : Stmt := topS 38
abbrev N__law_pool : List Str := ["script", "budget"]
theorem sc__law_pool : FnScope N__law_pool ["script", "budget"] (defScope s__law_pool) := ⟨rfl, rfl, rfl, by decide +kernel, rfl, by decide +kernel, by decide +kernel⟩
abbrev s__law_draw : Stmt := topS 39
abbrev N__law_draw : List Str := ["pool", "size", "cell", "value"]
theorem sc__law_draw : FnScope N__law_draw ["pool", "size"] (defScope s__law_draw) := ⟨rfl, rfl, rfl, by decide +kernel, rfl, by decide +kernel, by decide +kernel⟩
abbrev s__law_same : Stmt := topS 40
abbrev N__law_same : List Str := ["actual", "due", "k"]
theorem sc__law_same : FnScope N__law_same ["actual", "due"] (defScope s__law_same) := ⟨rfl, rfl, rfl, by decide +kernel, rfl, by decide +kernel, by decide +kernel⟩
abbrev s__law_at : Stmt := topS 41
abbrev N__law_at : List Str := ["words", "e"]
theorem sc__law_at : FnScope N__law_at ["words"] (defScope s__law_at) := ⟨rfl, rfl, rfl, by decide +kernel, rfl, by decide +kernel, by decide +kernel⟩
abbrev s__law_many : Stmt := topS 42
abbrev N__law_many : List Str := ["head", "rows", "upper", "rest", "words", "due", "k"]
theorem sc__law_many : FnScope N__law_many ["head", "rows", "upper", "rest"] (defScope s__law_many) := ⟨rfl, rfl, rfl, by decide +kernel, rfl, by decide +kernel, by decide +kernel⟩
abbrev s_law : Stmt := topS 43
abbrev N_law : List Str := ["script", "pool", "goods", "members", "names", "last", "more", "name", "held", "talks", "recipes", "head", "needs", "word", "rows", "times", "words", "number", "place", "rest", "due", "row", "k"]
theorem sc_law : FnScope N_law ["script"] (defScope s_law) := ⟨rfl, rfl, rfl, by decide +kernel, rfl, by decide +kernel, by decide +kernel⟩
/-! ### callees by name -/
/-- the built-in names that the module leaves alone -/
structure MB (mg : Str → Option Value) : Prop where
  len : mg "len" = none
  list : mg "list" = none
  tuple : mg "tuple" = none
  int : mg "int" = none
  str : mg "str" = none
  bool : mg "bool" = none
  abs : mg "abs" = none
  range : mg "range" = none
  isinstance : mg "isinstance" = none
  min : mg "min" = none
  all : mg "all" = none
  ValueError : mg "ValueError" = none
abbrev FnP (K : PySem.W.Frag) (x : Str) (st : Stmt) (f : Addr) (fd : FuncData) : Prop := FunD K x x (defArgs st) (defBody st) (defScope st) [] [] f fd
structure Callee (P : Program) (w : World) (K : PySem.W.Frag) (mg : Str → Option Value) (base : Heap) (CX : CXT) (x : Str) (ps : List Str) (k : Nat) (sp : Sp) : Prop where
  ex : ∃ f fd, mg x = some (.ref f) ∧ PySem.W.keepIn K (.ref f) = true ∧ Binds K fd ps [] ∧ FnOk P w K mg base CX k f fd ps sp
section
variable {X : Cx} {CX : CXT} {k : Nat} {ps : List Str} {sp : Sp} {E : XK} {x : Str} {p pos : Pos} {e : Expr} {es : List Expr} {t : TA}
theorem pe_callX (C : Callee X.prog X.w X.K X.mg X.base CX x ps k sp) (hr : Room k X.A) (hg : Gl X x) (hx : Passes CX X E) (ha : PA X (e :: es) t) (hdb : (x == ("__debug__" : Str)) = false := by decide)
    (he : starEach (e :: es) X.env = (false, eval e X.env) :: starEach es X.env := by rfl) (hpl : (backTo pos (starEach es X.env)).any (·.1) = false := by rfl) :
    PE X (.Call (.Name x p) (e :: es) [] pos) (tCall sp [] E t) := by
  obtain ⟨f, fd, h1, h2, h3, h4⟩ := C.ex
  exact pe_call h4 hr hg h1 h2 h3 .nil hx ha hdb he hpl
/-- f(e, ..), f lets nothing out -/
theorem pe_callC (C : Callee X.prog X.w X.K X.mg X.base CX0 x ps k sp) (hr : Room k X.A) (hg : Gl X x) (ha : PA X (e :: es) t) (hdb : (x == ("__debug__" : Str)) = false := by decide)
    (he : starEach (e :: es) X.env = (false, eval e X.env) :: starEach es X.env := by rfl) (hpl : (backTo pos (starEach es X.env)).any (·.1) = false := by rfl) :
    PE X (.Call (.Name x p) (e :: es) [] pos) (tCall sp [] E0 t) := pe_callX C hr hg pass0 ha hdb he hpl
end
/-! ### heaps -/
theorem same_upd {H : Hp} {p : Addr} {o : HO} (h : H p = none) : Same H (upd H p o) := fun b x e => by
  rw [upd_ne (ne_of_none e h)]
  exact e
theorem same_seqT {K : PySem.W.Frag} {H H' : Hp} {a : Addr} {xs : List V} (e : Same H H') (h : SqT K H a xs) : SqT K H' a xs := by
  rcases h with (h | ⟨o, h⟩) | h
  · exact .inl (.inl (e _ _ h))
  · exact .inl (.inr ⟨o, e _ _ h⟩)
  · exact .inr h
/-- all but p stands -/
def Kp (p : Addr) (H H' : Hp) : Prop := ∀ b o, b ≠ p → H b = some o → H' b = some o
theorem Kp.refl {p : Addr} {H : Hp} : Kp p H H := fun _ _ _ e => e
theorem Kp.trans {p : Addr} {H H1 H2 : Hp} (a : Kp p H H1) (b : Kp p H1 H2) : Kp p H H2 := fun c o n e => b c o n (a c o n e)
theorem Kp.same {p : Addr} {H H1 : Hp} (a : Same H H1) : Kp p H H1 := fun c o _ e => a c o e
theorem Kp.upd {p : Addr} {H : Hp} {o : HO} : Kp p H (upd H p o) := fun c u n e => by
  rw [upd_ne n]
  exact e
/-! ### the pool of draws -/
/-- the pool at p: a copy of the script at s, and five ints -/
def poolO (s : Addr) (i cur seed run bud : Int) : HO := .lst [.ref s, .int i, .int cur, .int seed, .int run, .int bud]
structure PoolIs (H : Hp) (p s : Addr) (ns : List Int) (i cur seed run bud : Int) : Prop where
  at_ : H p = some (poolO s i cur seed run bud)
  sc : H s = some (.lst (ns.map V.int))
  ne : s ≠ p
  i0 : 0 ≤ i
  s0 : 0 ≤ seed
  s1 : seed < 2147483647
def Pool (H : Hp) (p : Addr) : Prop := ∃ s ns i cur seed run bud, PoolIs H p s ns i cur seed run bud
theorem Pool.there {H : Hp} {p : Addr} (h : Pool H p) : ∃ s i cur seed run bud, H p = some (poolO s i cur seed run bud) := by
  obtain ⟨s, ns, i, cur, seed, run, bud, h⟩ := h
  exact ⟨s, i, cur, seed, run, bud, h.at_⟩
theorem Pool.same {H H' : Hp} {p : Addr} (h : Pool H p) (e : Same H H') : Pool H' p := by
  obtain ⟨s, ns, i, cur, seed, run, bud, h⟩ := h
  exact ⟨s, ns, i, cur, seed, run, bud, e _ _ h.at_, e _ _ h.sc, h.ne, h.i0, h.s0, h.s1⟩
theorem PoolIs.put {H : Hp} {p s : Addr} {ns : List Int} {i cur seed run bud : Int} (h : PoolIs H p s ns i cur seed run bud) {i' cur' seed' run' bud' : Int} (a : 0 ≤ i') (b : 0 ≤ seed') (c : seed' < 2147483647) :
    PoolIs (upd H p (poolO s i' cur' seed' run' bud')) p s ns i' cur' seed' run' bud' :=
  ⟨upd_same, by rw [upd_ne h.ne]; exact h.sc, h.ne, a, b, c⟩
/-- the drawn number is any one below the size; the pool has moved, all else stands -/
def spDraw : Sp := fun vs H Q _ => ∃ (p : Addr) (n : Int), vs = [.ref p, .int n] ∧ 0 < n ∧ n < 1073741824 ∧ Pool H p ∧ ∀ (v : Int) (o : HO), 0 ≤ v → v < n → Pool (upd H p o) p → Q (.int v) (upd H p o)
def spPool (K : PySem.W.Frag) : Sp := fun vs H Q _ => ∃ (a : Addr) (ns : List Int) (b : Int), vs = [.ref a, .int b] ∧ SqL K H a (ns.map V.int) ∧ ∀ (p : Addr) (H' : Hp), H p = none → Same H H' → Pool H' p → Q (.ref p) H'
theorem lt1000 {n : Nat} (h : Nat.ble (n + 1) 1000 = true) : n < 1000 := Nat.le_of_ble_eq_true h

/-! ### short readings -/
/-- small side conditions -/
local macro_rules | `(tactic| walk_at "sd") => `(tactic| (first
  | omega
  | assumption
  | rfl
  | decide
  | exact .inr ⟨by decide, by decide⟩
  | exact .inl ⟨by decide, by decide⟩
  | exact ⟨by first | assumption | decide | omega, by first | assumption | decide | omega⟩
  | exact ⟨by decide, by decide, by decide⟩))
/-- reads on while what is asked is plain: a slot, two ints, an item at a written place, a test's answer -/
local macro_rules | `(tactic| walk_at "rd") => `(tactic| repeat (first
  | refine ⟨_, rfl, ?_⟩
  | refine ⟨_, _, rfl, rfl, ?_⟩
  | refine ⟨_, _, _, _, rfl, rfl, (by first | assumption | exact upd_same | exact .inl (.inl upd_same)), (by rfl), ?_⟩
  | refine ⟨_, _, rfl, .inl (by first | assumption | exact .inl (.inl upd_same)), ?_⟩
  | refine ⟨_, _, rfl, .inr (by first | assumption | exact .inl (.inl upd_same)), ?_⟩
  | refine ⟨_, _, _, _, _, rfl, (by first | assumption | exact upd_same), (by assumption), (by assumption), (by rfl), ?_⟩
  | refine ⟨_, _, _, _, rfl, (by first | assumption | exact upd_same), (by assumption), (by assumption), lt1000 (by rfl), ?_⟩
  | refine .inl ⟨_, rfl, ?_⟩
  | refine And.intro (by walk_at "sd") ?_))
/-- isinstance of a value whose type is known, by a built-in class -/
local macro_rules | `(tactic| walk_at "isi") => `(tactic| first
  | refine ⟨_, _, _, _, true, rfl, .ty _, (by assumption), kit_ty (by decide +kernel), ?_⟩
  | refine ⟨_, _, _, _, false, rfl, .ty _, (by assumption), kit_ty (by decide +kernel), ?_⟩)
/-- as rd; and where a test's answer is known -/
local macro_rules | `(tactic| walk_at "go") => `(tactic| repeat (first
  | refine ⟨_, rfl, ?_⟩
  | refine ⟨_, _, rfl, rfl, ?_⟩
  | refine ⟨_, _, _, _, rfl, rfl, (by first | assumption | exact upd_same | exact .inl (.inl upd_same)), (by rfl), ?_⟩
  | refine ⟨_, _, rfl, .inl (by first | assumption | exact .inl (.inl upd_same)), ?_⟩
  | refine ⟨_, _, rfl, .inr (by first | assumption | exact .inl (.inl upd_same)), ?_⟩
  | refine ⟨_, _, _, _, _, rfl, (by first | assumption | exact upd_same), (by assumption), (by assumption), (by rfl), ?_⟩
  | refine ⟨_, _, _, _, rfl, (by first | assumption | exact upd_same), (by assumption), (by assumption), lt1000 (by rfl), ?_⟩
  | refine .inl ⟨_, rfl, ?_⟩
  | walk_at "isi"
  | refine iteT ?_
  | refine iteF ?_
  | refine And.intro (by walk_at "sd") ?_))


section
variable {P : Program} {w : World} {K : PySem.W.Frag} {mg : Str → Option Value} {base : Heap} {f : Addr} {fd : FuncData}
theorem ok__law_pool (M : MB mg) (F : FnP K "_law_pool" s__law_pool f fd) : FnOk P w K mg base CX0 1 f fd ["script", "budget"] (spPool K) := by
  refine F.ok sc__law_pool (fun vs H Q E h => ?_) (fun cdv A outer s H vs Q E hr h => ⟨_, PSs.nox (pss_one (ps_ret (pe_lst (pa_cons (pe_callTy call_list_of (by rfl) M.list (by decide +kernel) (pa_cons (pv 0) pa_nil)) (pa_cons pe_int (pa_cons pe_int (pa_cons pe_int (pa_cons pe_int (pa_cons (pv 1) pa_nil))))))))), ?_⟩)
  · obtain ⟨a, ns, b, rfl, _⟩ := h
    rfl
  · obtain ⟨a, ns, b, rfl, hS, q⟩ := h
    refine ⟨_, rfl, a, _, rfl, .inl hS, fun l hl => ?_⟩
    refine ⟨_, rfl, (by show 6 ≤ sizeLine; decide), fun p hp => ?_⟩
    have hpl : p ≠ l := fun e => by
      rw [e, upd_same] at hp
      cases hp
    have hp0 : H p = none := by rw [upd_ne hpl] at hp; exact hp
    refine q p _ hp0 ((same_upd hl).trans (same_upd hp)) ⟨l, ns, 0, 0, 1, 0, b, upd_same, ?_, hpl.symm, by decide, by decide, by decide⟩
    rw [upd_ne hpl.symm, upd_same]
/-- an item of the pool, by its written place -/
theorem pool_ix {H : Hp} {p s : Addr} {ns : List Int} {i cur seed run bud : Int} (h : PoolIs H p s ns i cur seed run bud) : SqL K H p [.ref s, .int i, .int cur, .int seed, .int run, .int bud] := .inl (.inl h.at_)
theorem ok__law_draw (M : MB mg) (F : FnP K "_law_draw" s__law_draw f fd) : FnOk P w K mg base CX0 1 f fd ["pool", "size"] spDraw := by
  refine F.ok sc__law_draw (fun vs H Q E h => ?_) (fun cdv A outer s H vs Q E hr h => ⟨_, PSs.nox (Evl.pss_cut (ps_if (PW.pt (pw_and (pt_cmpR op_le (pe_ix ix_list (pv 0) pe_int (fun _ _ => rfl)) pe_int (nomark _)) (pw_and (pt_cmpR op_le (pe_ix ix_list (pv 0) pe_int (fun _ _ => rfl)) pe_int (nomark _)) (pw_and1 (pt_cmpR op_lt (pe_ix ix_list (pv 0) pe_int (fun _ _ => rfl)) (pe_callB call_len_seq (by rfl) M.len (by decide +kernel) (pa_cons (pe_ix ix_list (pv 0) pe_int (fun _ _ => rfl)) pa_nil)) (nomark _)))))) (pss_cons (ps_set (i := 2) sc__law_draw.nd rfl (.inl rfl) (pe_ix ix_list (pe_ix ix_list (pv 0) pe_int (fun _ _ => rfl)) (pe_ix ix_list (pv 0) pe_int (fun _ _ => rfl)) (fun _ _ => rfl)))
  (pss_cons (ps_asg (pe_op op_add (pe_ix ix_list (pv 0) pe_int (fun _ _ => rfl)) pe_int) (pg_sub (pv 0) pe_int set_list))
  (pss_cons (ps_asg (pe_op op_mod (pe_callTy call_int1 (by rfl) M.int (by decide +kernel) (pa_cons (pe_op op_add (pe_op op_mul (pe_ix ix_list (pv 0) pe_int (fun _ _ => rfl)) pe_int) (pv 2)) pa_nil)) pe_int) (pg_sub (pv 0) pe_int set_list))
  (pss_cons (ps_asg pe_int (pg_sub (pv 0) pe_int set_list))
  (pss_one (ps_if (pt_cmpR op_ge (pv 2) (pe_op op_pow pe_int pe_int) (nomark _)) (pss_one (ps_asg (pv 2) (pg_sub (pv 0) pe_int set_list))) pss_nil)))))) pss_nil)
  (pss_cons (ps_if (pt_cmpR op_gt (pe_ix ix_list (pv 0) pe_int (fun _ _ => rfl)) pe_int (nomark _)) (pss_cons (ps_set (i := 3) sc__law_draw.nd rfl (.inl rfl) (pe_op op_mod (pe_callTy call_int1 (by rfl) M.int (by decide +kernel) (pa_cons (pe_ix ix_list (pv 0) pe_int (fun _ _ => rfl)) pa_nil)) (pv 1)))
  (pss_cons (ps_asg (pe_op op_fdiv (pe_ix ix_list (pv 0) pe_int (fun _ _ => rfl)) (pv 1)) (pg_sub (pv 0) pe_int set_list))
  (pss_cons (ps_asg pe_int (pg_sub (pv 0) pe_int set_list))
  (pss_one (ps_ret (pv 3)))))) pss_nil)
  (pss_cons (ps_asg (pe_op op_sub (pe_ix ix_list (pv 0) pe_int (fun _ _ => rfl)) pe_int) (pg_sub (pv 0) pe_int set_list))
  (pss_cons (ps_asg (pe_op op_mod (pe_callTy call_int1 (by rfl) M.int (by decide +kernel) (pa_cons (pe_op op_add (pe_op op_mul (pe_ix ix_list (pv 0) pe_int (fun _ _ => rfl)) pe_int) pe_int) pa_nil)) pe_int) (pg_sub (pv 0) pe_int set_list))
  (pss_one (ps_ret (pe_op op_mod (pe_op op_mod (pe_callTy call_int1 (by rfl) M.int (by decide +kernel) (pa_cons (pe_op op_add (pe_op op_mul (pe_ix ix_list (pv 0) pe_int (fun _ _ => rfl)) pe_int) pe_int) pa_nil)) pe_int) (pv 1)))))))), ?_⟩)
  · obtain ⟨p, n, rfl, _⟩ := h
    rfl
  · obtain ⟨p, n, rfl, hn, hn2, hP, q⟩ := h
    refine ⟨fun σ' H' => ∃ x2 x3 s ns i cur seed run bud, σ' = [some (.ref p), some (.int n), x2, x3] ∧ PoolIs H' p s ns i cur seed run bud ∧ (∀ o, upd H' p o = upd H p o), ?_, ?_⟩
    · obtain ⟨sc, ns, i, cur, seed, run, bud, h0⟩ := hP
      have sq := pool_ix (K := K) h0
      have sS : SqL K H sc (ns.map V.int) := .inl (.inl h0.sc)
      have ha : H p = some (.lst [.ref sc, .int i, .int cur, .int seed, .int run, .int bud]) := h0.at_
      have stay : ∃ x2 x3 s ns i cur seed run bud, [some (.ref p), some (.int n), none, none] = [some (V.ref p), some (.int n), x2, x3] ∧ PoolIs H p s ns i cur seed run bud ∧ (∀ o, upd H p o = upd H p o) := ⟨_, _, _, _, _, _, _, _, _, rfl, h0, fun _ => rfl⟩
      walk_at "rd"
      refine ite2 (fun e1 => ?_) (fun e1 => ?_)
      · walk_at "rd"
        refine ite2 (fun e2 => ?_) (fun e2 => ?_)
        · walk_at "rd"
          refine ite2 (fun e3 => ?_) (fun e3 => ?_)
          · have e4 : i < (ns.length : Int) := by
              have := of_decide_eq_true e3
              rw [List.length_map] at this
              exact this
            obtain ⟨j, rfl⟩ : ∃ j : Nat, i = j := ⟨i.toNat, by have := h0.i0; omega⟩
            have e5 : j < ns.length := by omega
            have hc : atI (ns.map V.int) (j : Int) = some (.int ns[j]) := by
              rw [atI_nat (j := j)]
              rw [List.getElem?_map, List.getElem?_eq_getElem e5]
              rfl
            generalize ns[j] = cell at hc
            have hm := Int.emod_nonneg (seed * 31 + cell) (show (2147483647 : Int) ≠ 0 by decide)
            have hm2 := Int.emod_lt_of_pos (seed * 31 + cell) (show (0 : Int) < 2147483647 by decide)
            walk_at "rd"
            refine ⟨_, _, _, _, rfl, rfl, sS, hc, ?_⟩
            walk_at "rd"
            refine ite2 (fun e6 => ?_) (fun e6 => ?_)
            · walk_at "rd"
              rw [upd_upd, upd_upd, upd_upd]
              exact ⟨some (.int cell), none, sc, ns, (j : Int) + 1, cell, (seed * 31 + cell) % 2147483647, 7, bud, rfl, h0.put (by omega) hm hm2, fun _ => upd_upd⟩
            · rw [upd_upd, upd_upd]
              exact ⟨some (.int cell), none, sc, ns, (j : Int) + 1, cur, (seed * 31 + cell) % 2147483647, 7, bud, rfl, h0.put (by omega) hm hm2, fun _ => upd_upd⟩
          · exact stay
        · exact iteF stay
      · exact iteF stay
    · rintro σ' H' ⟨x2, x3, sc, ns, i, cur, seed, run, bud, rfl, h0, hu⟩
      have sq := pool_ix (K := K) h0
      have ha : H' p = some (.lst [.ref sc, .int i, .int cur, .int seed, .int run, .int bud]) := h0.at_
      have hs0 := h0.s0
      have hs1 := h0.s1
      walk_at "rd"
      refine ite2 (fun e1 => ?_) (fun e1 => ?_)
      · walk_at "rd"
        rw [upd_upd, hu]
        refine q _ _ (Int.emod_nonneg _ (by omega)) (Int.emod_lt_of_pos _ hn) ?_
        rw [← hu]
        exact ⟨sc, ns, i, cur / n, seed, 0, bud, h0.put h0.i0 h0.s0 h0.s1⟩
      · walk_at "rd"
        rw [upd_upd, hu]
        refine q _ _ (Int.emod_nonneg _ (by omega)) (Int.emod_lt_of_pos _ hn) ?_
        rw [← hu]
        exact ⟨sc, ns, i, cur, (seed * 48271 + 12345) % 2147483647, run - 1, bud, h0.put h0.i0 (Int.emod_nonneg _ (by decide)) (Int.emod_lt_of_pos _ (by decide))⟩
end

/-! ### _law_same: equal data are the same -/
/-- data of depth below n that _law_same goes through -/
def Fits : Nat → PyData → Prop
  | 0, _ => False
  | _ + 1, .none => True
  | _ + 1, .bool _ => True
  | _ + 1, .int _ => True
  | _ + 1, .str _ => True
  | n + 1, .list ds => ds.length ≤ 100000 ∧ ∀ d ∈ ds, Fits n d
  | n + 1, .tuple ds => ds.length ≤ 100000 ∧ ∀ d ∈ ds, Fits n d
  | _ + 1, .dict _ => False
def tyN : PyData → String
  | .none => "NoneType"
  | .bool _ => "bool"
  | .int _ => "int"
  | .str _ => "str"
  | .list _ => "list"
  | .tuple _ => "tuple"
  | .dict _ => "dict"
theorem tyx_sqL {K : PySem.W.Frag} {H : Hp} {a : Addr} {xs : List V} (h : SqL K H a xs) : TyX K H (.ref a) (.type "list") := by
  rcases h with (h | ⟨o, h⟩) | ⟨o, its, n, h, hc, _⟩
  · exact .base (.lst h)
  · exact .base (.frz h)
  · exact .kList h hc
theorem tyx_sqT {K : PySem.W.Frag} {H : Hp} {a : Addr} {xs : List V} (h : SqT K H a xs) : TyX K H (.ref a) (.type "tuple") := by
  rcases h with (h | ⟨o, h⟩) | ⟨o, its, n, h, hc, _⟩
  · exact .base (.tup h)
  · exact .fTuple h
  · exact .kTuple h hc
theorem dp_tyx {K : PySem.W.Frag} {H : Hp} {x : V} {d : PyData} (h : Dp K H x d) : TyX K H x (.type (tyN d)) := by
  cases h with
  | non => exact .base .non
  | bl b => exact .base (.bl b)
  | int i => exact .base (.int i)
  | str x => exact .base (.str x)
  | lst h _ => exact tyx_sqL h
  | tup h _ => exact tyx_sqT h
theorem dpa_len {K : PySem.W.Frag} {H : Hp} : ∀ {vs : List V} {ds : List PyData}, DpAll K H vs ds → vs.length = ds.length
  | [], [], _ => rfl
  | _ :: vs, _ :: ds, .cons _ t => congrArg Nat.succ (dpa_len t)
theorem dpa_get {K : PySem.W.Frag} {H : Hp} : ∀ {vs : List V} {ds : List PyData} {i : Nat}, DpAll K H vs ds → i < ds.length → ∃ v d, vs[i]? = some v ∧ ds[i]? = some d ∧ d ∈ ds ∧ Dp K H v d
  | [], [], _, _, h => absurd h (Nat.not_lt_zero _)
  | v :: vs, d :: ds, 0, .cons h t, _ => ⟨v, d, rfl, rfl, List.mem_cons_self, h⟩
  | _ :: vs, _ :: ds, i + 1, .cons _ t, hi => by
    obtain ⟨v, d, h1, h2, h3, h4⟩ := dpa_get (i := i) t (Nat.lt_of_succ_lt_succ hi)
    exact ⟨v, d, h1, h2, List.mem_cons_of_mem _ h3, h4⟩
def spSame (K : PySem.W.Frag) (n : Nat) : Sp := fun vs H Q _ => ∃ (x y : V) (d : PyData), vs = [x, y] ∧ Dp K H x d ∧ Dp K H y d ∧ Fits n d ∧ Q (.bl true) H
section
variable {P : Program} {w : World} {K : PySem.W.Frag} {mg : Str → Option Value} {base : Heap} {f : Addr} {fd : FuncData}
theorem ok__law_same (M : MB mg) (F : FnP K "_law_same" s__law_same f fd) (gf : mg "_law_same" = some (.ref f)) : ∀ n : Nat, FnOk P w K mg base CX0 (n + 1) f fd ["actual", "due"] (spSame K n) := by
  have bf : Binds K fd ["actual", "due"] [] := F.bindsN fun _ _ _ _ _ _ us hl => match us, hl with | [_, _], _ => rfl
  intro n
  induction n with
  | zero => exact ⟨fun vs H Q E ⟨_, _, _, _, _, _, h, _⟩ => h.elim, fun A outer s H args us vs Q E _ _ _ _ ⟨_, _, _, _, _, _, h, _⟩ => h.elim⟩
  | succ n ih =>
    have C__law_same : Callee P w K mg base CX0 "_law_same" ["actual", "due"] (n + 1) (spSame K n) := ⟨f, fd, gf, F.kp, bf, ih⟩
    refine F.ok sc__law_same (fun vs H Q E h => ?_) (fun cdv A outer s H vs Q E hr h => ⟨_, PSs.nox (pss_cons (ps_if (PW.pt (pw_or (pt_val (pe_callB call_isi (by rfl) M.isinstance (by decide +kernel) (pa_cons (pv 1) (pa_cons (pe_bltn (v := .ty "tuple") (u := .type "tuple") (by rfl) M.tuple (by decide +kernel) (by rfl)) pa_nil)))) (pw_or1 (pt_val (pe_callB call_isi (by rfl) M.isinstance (by decide +kernel) (pa_cons (pv 1) (pa_cons (pe_bltn (v := .ty "list") (u := .type "list") (by rfl) M.list (by decide +kernel) (by rfl)) pa_nil))))))) (pss_cons (ps_if (PW.pt (pw_or (pt_cmpR op_ne (pe_callB call_isi (by rfl) M.isinstance (by decide +kernel) (pa_cons (pv 1) (pa_cons (pe_bltn (v := .ty "tuple") (u := .type "tuple") (by rfl) M.tuple (by decide +kernel) (by rfl)) pa_nil))) (pe_callB call_isi (by rfl) M.isinstance (by decide +kernel) (pa_cons (pv 0) (pa_cons (pe_bltn (v := .ty "tuple") (u := .type "tuple") (by rfl) M.tuple (by decide +kernel) (by rfl)) pa_nil))) (nomark _)) (pw_or1 (pt_cmpR op_ne (pe_callB call_isi (by rfl) M.isinstance (by decide +kernel) (pa_cons (pv 1) (pa_cons (pe_bltn (v := .ty "list") (u := .type "list") (by rfl) M.list (by decide +kernel) (by rfl)) pa_nil))) (pe_callB call_isi (by rfl) M.isinstance (by decide +kernel) (pa_cons (pv 0) (pa_cons (pe_bltn (v := .ty "list") (u := .type "list") (by rfl) M.list (by decide +kernel) (by rfl)) pa_nil))) (nomark _))))) (pss_one (ps_ret pe_bl)) pss_nil)
  (pss_cons (ps_if (pt_cmpR op_ne (pe_callB call_len_seq (by rfl) M.len (by decide +kernel) (pa_cons (pv 0) pa_nil)) (pe_callB call_len_seq (by rfl) M.len (by decide +kernel) (pa_cons (pv 1) pa_nil)) (nomark _)) (pss_one (ps_ret pe_bl)) pss_nil)
  (pss_cons (ps_for PassesOwn.never rfl (pi_range1 (by rfl) M.range (pa_cons (pe_callB call_len_seq (by rfl) M.len (by decide +kernel) (pa_cons (pv 1) pa_nil)) pa_nil)) (pg_name (i := 2) sc__law_same.nd rfl (.inl rfl)) (pss_one (ps_if (pt_not (pt_val (pe_callC C__law_same (hr.mono (by first | decide | exact Nat.le_refl _ | omega)) (by rfl) (pa_cons (pe_ix ix_seq (pv 0) (pv 2) (fun _ _ => rfl)) (pa_cons (pe_ix ix_seq (pv 1) (pv 2) (fun _ _ => rfl)) pa_nil))))) (pss_one (ps_ret pe_bl)) pss_nil)))
  (pss_one (ps_ret pe_bl))))) pss_nil)
  (pss_cons (ps_if (PW.pt (pw_or (pt_cmpR op_isN (pv 1) pe_non (nomark _)) (pw_or1 (pt_val (pe_callB call_isi (by rfl) M.isinstance (by decide +kernel) (pa_cons (pv 1) (pa_cons (pe_bltn (v := .ty "bool") (u := .type "bool") (by rfl) M.bool (by decide +kernel) (by rfl)) pa_nil))))))) (pss_one (ps_ret (pe_and (pe_cmpR op_eq (pe_cmpR op_isN (pv 0) pe_non (nomark _)) (pe_cmpR op_isN (pv 1) pe_non (nomark _)) (nomark _)) (pe_and (pe_or (pe_cmpR op_isN (pv 1) pe_non (nomark _)) (pe_one (pe_callB call_isi (by rfl) M.isinstance (by decide +kernel) (pa_cons (pv 0) (pa_cons (pe_bltn (v := .ty "bool") (u := .type "bool") (by rfl) M.bool (by decide +kernel) (by rfl)) pa_nil))))) (pe_one (pe_cmpR op_eq (pv 0) (pv 1) (nomark _))))))) pss_nil)
  (pss_cons (ps_if (pt_val (pe_callB call_isi (by rfl) M.isinstance (by decide +kernel) (pa_cons (pv 1) (pa_cons (pe_bltn (v := .ty "int") (u := .type "int") (by rfl) M.int (by decide +kernel) (by rfl)) pa_nil)))) (pss_one (ps_ret (pe_and (pe_callB call_isi (by rfl) M.isinstance (by decide +kernel) (pa_cons (pv 0) (pa_cons (pe_bltn (v := .ty "int") (u := .type "int") (by rfl) M.int (by decide +kernel) (by rfl)) pa_nil))) (pe_and (pe_not (pe_callB call_isi (by rfl) M.isinstance (by decide +kernel) (pa_cons (pv 0) (pa_cons (pe_bltn (v := .ty "bool") (u := .type "bool") (by rfl) M.bool (by decide +kernel) (by rfl)) pa_nil)))) (pe_one (pe_cmpR op_eq (pv 0) (pv 1) (nomark _))))))) pss_nil)
  (pss_one (ps_ret (pe_and (pe_callB call_isi (by rfl) M.isinstance (by decide +kernel) (pa_cons (pv 0) (pa_cons (pe_bltn (v := .ty "str") (u := .type "str") (by rfl) M.str (by decide +kernel) (by rfl)) pa_nil))) (pe_one (pe_cmpR op_eq (pv 0) (pv 1) (nomark _))))))))), ?_⟩)
    · obtain ⟨x, y, d, rfl, _⟩ := h
      rfl
    · obtain ⟨x, y, d, rfl, hx, hy, hf, q⟩ := h
      cases d with
      | none =>
        cases hx
        cases hy
        have tx : TyX K H .non (.type "NoneType") := .base .non
        walk_at "go"
        exact q
      | bool b =>
        cases hx
        cases hy
        have tx : TyX K H (.bl b) (.type "bool") := .base (.bl b)
        walk_at "go"
        show Q (.bl (decide _)) H
        rw [decide_eq_true rfl]
        exact q
      | int i =>
        cases hx
        cases hy
        have tx : TyX K H (.int i) (.type "int") := .base (.int i)
        walk_at "go"
        show Q (.bl (decide _)) H
        rw [decide_eq_true rfl]
        exact q
      | str z =>
        cases hx
        cases hy
        have tx : TyX K H (.str z) (.type "str") := .base (.str z)
        walk_at "go"
        show Q (.bl (decide _)) H
        rw [decide_eq_true rfl]
        exact q
      | dict _ => exact hf.elim
      | list ds =>
        cases hx with
        | @lst a xs _ hx hxs =>
        cases hy with
        | @lst b ys _ hy hys =>
        have tx := tyx_sqL hx
        have ty := tyx_sqL hy
        have lx := dpa_len hxs
        have ly := dpa_len hys
        have hz : ds.length ≤ 100000 := hf.1
        have hb : ((ys.length : Nat) : Int) < 2 ^ 62 := by omega
        walk_at "go"
        refine iteNS (by rw [lx, ly]) ?_
        walk_at "go"
        refine for_range (fun _ σ' H' => (∃ z, σ' = [some (.ref a), some (.ref b), z]) ∧ H' = H) ⟨⟨_, rfl⟩, rfl⟩ ?_ ?_
        · rintro i σ' H' hi ⟨⟨z, rfl⟩, rfl⟩
          have hi2 : i < ds.length := by omega
          obtain ⟨v, d, h1, h2, h3, h4⟩ := dpa_get hxs hi2
          obtain ⟨v', d', h1', h2', h3', h4'⟩ := dpa_get hys hi2
          have ed : d' = d := Option.some.inj (h2'.symm.trans h2)
          subst ed
          have hfi := hf.2 d' h3
          have ez : (0 : Int) + (i : Int) = (i : Int) := Int.zero_add _
          rw [ez]
          refine ⟨_, rfl, _, rfl, .inl ⟨_, _, _, _, rfl, rfl, hx, atI_nat h1, ?_⟩⟩
          refine ⟨_, rfl, _, rfl, .inl ⟨_, _, _, _, rfl, rfl, hy, atI_nat h1', ?_⟩⟩
          refine ⟨_, _, _, rfl, h4, h4', hfi, ?_⟩
          walk_at "go"
          exact ⟨⟨_, rfl⟩, rfl⟩
        · rintro σ' H' ⟨⟨z, rfl⟩, rfl⟩
          walk_at "go"
          exact q
      | tuple ds =>
        cases hx with
        | @tup a xs _ hx hxs =>
        cases hy with
        | @tup b ys _ hy hys =>
        have tx := tyx_sqT hx
        have ty := tyx_sqT hy
        have lx := dpa_len hxs
        have ly := dpa_len hys
        have hz : ds.length ≤ 100000 := hf.1
        have hb : ((ys.length : Nat) : Int) < 2 ^ 62 := by omega
        walk_at "go"
        refine iteNS (by rw [lx, ly]) ?_
        walk_at "go"
        refine for_range (fun _ σ' H' => (∃ z, σ' = [some (.ref a), some (.ref b), z]) ∧ H' = H) ⟨⟨_, rfl⟩, rfl⟩ ?_ ?_
        · rintro i σ' H' hi ⟨⟨z, rfl⟩, rfl⟩
          have hi2 : i < ds.length := by omega
          obtain ⟨v, d, h1, h2, h3, h4⟩ := dpa_get hxs hi2
          obtain ⟨v', d', h1', h2', h3', h4'⟩ := dpa_get hys hi2
          have ed : d' = d := Option.some.inj (h2'.symm.trans h2)
          subst ed
          have hfi := hf.2 d' h3
          have ez : (0 : Int) + (i : Int) = (i : Int) := Int.zero_add _
          rw [ez]
          refine ⟨_, rfl, _, rfl, .inr (.inl ⟨_, _, _, _, rfl, rfl, hx, atI_nat h1, ?_⟩)⟩
          refine ⟨_, rfl, _, rfl, .inr (.inl ⟨_, _, _, _, rfl, rfl, hy, atI_nat h1', ?_⟩)⟩
          refine ⟨_, _, _, rfl, h4, h4', hfi, ?_⟩
          walk_at "go"
          exact ⟨⟨_, rfl⟩, rfl⟩
        · rintro σ' H' ⟨⟨z, rfl⟩, rfl⟩
          walk_at "go"
          exact q
end

/-! ### an own error over an own error over ValueError, whose __init__ says super().__init__(f'..{at}') and self.at = at -/
end NG
namespace PySem
namespace BtX
open PySem.W PySem.Calls PyProof.Rows PySem.HandSPX
def tA (p : Nat → Pos) : Arguments := { posonlyargs := [], args := [{ arg := "self", annotation := none, pos := p 0 }, { arg := "at", annotation := none, pos := p 1 }], vararg := none, kwonlyargs := [], kw_defaults := [], kwarg := none, defaults := [] }
def tJ (msg : Str) (p : Nat → Pos) : Expr := .JoinedStr [.Constant (.str msg) 0 (p 5), .FormattedValue (.Name "at" (p 6)) (-1) none (p 7)] (p 8)
def tC (msg : Str) (p : Nat → Pos) : Expr := .Call (.Attribute (.Call (.Name "super" (p 2)) [] [] (p 3)) "__init__" (p 4)) [tJ msg p] [] (p 9)
/-- the call's tree, where it stands on one row -/
def Row (msg : Str) (p : Nat → Pos) : Prop := ∀ env : Env, ∃ pl : Sem Bool, eval (tC msg p) env = (do
      let ov ← attributeBase (.Call (.Name "super" (p 2)) [] [] (p 3)) "__init__" env (eval (.Call (.Name "super" (p 2)) [] [] (p 3)) env)
      standAt (p 4).atName
      let (f, first) ← holding [ov] (getMethod ov "__init__" pl)
      callWith (p 9) f first (backTo (p 9) (starEach [tJ msg p] env)) [])
def tB (msg : Str) (p : Nat → Pos) : List Stmt := [
  .Expr (tC msg p) (p 10),
  .Assign [.Attribute (.Name "self" (p 11)) "at" (p 12)] (.Name "at" (p 13)) (p 14)]
def tS : Scope := { kind := .function, names := [(PySem.Str.ofString "self", .local), (PySem.Str.ofString "at", .local), (PySem.Str.ofString "__class__", .free), (PySem.Str.ofString "super", .globalImplicit)], isGenerator := false, isCoroutine := false, more := [] }
/-- what the written part says of the class at C, of its __init__ at fI (its cell at cc, its code at cda) -/
structure BtTxt (prog : Program) (K : Frag) (mg : Str → Option Value) (nm qn : Str) (C fI : Addr) : Prop where
  gC : mg nm = some (.ref C)
  cls : ∃ n q N bs bm sn sub ab col dd k0 k1 k2 k3 k5, K.lookup C = some (excClassObj n q C N bs bm true sn sub ab col dd k0 k1 k2 k3 k5 "ValueError.__new__") ∧ refsVE bm = true ∧ alongIn K "__init__" bm = some (some (.builtin "ValueError.__init__"))
  sa : findIn K (.ref C) "__setattr__" = some (some (.builtin "object.__setattr__"))
  ga : findIn K (.ref C) "__getattribute__" = some (some (.builtin "BaseException.__getattribute__"))
  gg : findIn K (.ref C) "__getattr__" = some none
  noN : findIn K (.ref C) "at" = some none
  iC : findIn K (.ref C) "__init__" = some (some (.ref fI))
  tC : typeIn K (.ref fI) = some (.type "function")
  kC : keepIn K (.ref C) = true
  exC : subIn K (.ref C) (.type "BaseException") = some true
  veC : subIn K (.ref C) (.type "ValueError") = some true
  seC : mroIn K C (.ref C) = some true
  tyC : typeIn K (.ref C) = some (.type "type")
  hdC : hasDictIn K C = true
  te : exmOne K (.ref C) (.ref C) = some true
  opq : nsIn K cStatics "thirdparty.any" = some none
  sup : mg "super" = none
  top : (prog.main.scope.names.lookup ("super" : Str)).isSome = false
  fn : ∃ (oc : Value) (od : Option Addr) (doc pm : Value) (an : Option Addr) (ct : Value) (osl : Array (Option Value)) (msg : Str) (p : Nat → Pos) (cc cda : Addr) (ccl cl : Value) (cdd cld : Option Addr) (vs : Array Value) (ccs csl : Array (Option Value)) (file : Str) (tf : Tok),
    K.lookup fI = some ⟨oc, od, .func (ksFn "__init__" qn (tA p) (tB msg p) tS .none .none doc pm an (.ref cda) ct cc), osl⟩ ∧ codeIn K (.ref cda) qn = true ∧ K.lookup cda = some ⟨ccl, cdd, .fields vs, ccs⟩ ∧ vs[2]? = some (.str file tf) ∧ ((prog.main.file : Str) == file) = true ∧
    K.lookup cc = some ⟨cl, cld, .cell (some (.ref C)), csl⟩ ∧ msg.length ≤ 100 ∧ Row msg p
theorem one_size (v : Value) : [v].length ≤ sizeLine := by
  rw [sizeLine_eq]
  exact (by decide : 1 ≤ 16777216)
/-- what __init__ leaves of a fresh exception at x -/
structure InitEnd (h h' : Heap) (x C dx t1 : Addr) (v : Value) : Prop where
  keep : ∀ b o, b ≠ x → h.get? b = some o → h'.get? b = some o
  obj : h'.get? x = some { cls := .ref C, dict := some dx, data := .fields #[.ref t1, .none, .none, .none, .bool false, .none] }
  dbig : h.objs.size ≤ dx
  dne : dx ≠ x
  ns : h'.Ns1 dx (fun y => if y = "at" then some v else none)
/-- the made error -/
structure OwnMade (h h' : Heap) (e C d : Addr) (v : Value) : Prop where
  keep : ∀ b o, h.get? b = some o → h'.get? b = some o
  new : h.objs.size ≤ e
  obj : ∃ oe vs, h'.get? e = some oe ∧ oe.cls = .ref C ∧ oe.dict = some d ∧ oe.data = .fields vs ∧ vs[1]? = some .none
  dbig : h.objs.size ≤ d
  dne : d ≠ e
  ns : h'.Ns1 d (fun y => if y = "at" then some v else none)
section
variable {prog : Program} {w : World} {A : Around} {E : Value → Shared → Prop} {h : Heap} {g : Array GenState} {d : Drawn} {t : Nat} {os : OsState}
/-- super().__init__ as it was bound, called with one value -/
theorem call_mw {u e t0 C : Addr} {nm q : Str} {N : Addr} {bs bm : List Value} {hdct : Bool} {sn : List Str} {sub : List Value} {ab : Bool} {col : Option Bool} {dd : Option Addr} {k0 k1 k2 k3 k5 : Option Value} {rest : List Value} {Q : Value → Shared → Prop}
    (hC : h.get? C = some (excClassObj nm q C N bs bm hdct sn sub ab col dd k0 k1 k2 k3 k5 "ValueError.__new__")) (he : h.get? e = some (excO C t0)) (hu : h.get? u = some (kxs_mw "ValueError.__init__" e)) (hrest : rest.length ≤ sizeLine)
    (hq : ∀ h' t1, (∀ b o, b ≠ e → h.get? b = some o → h'.get? b = some o) → h'.get? e = some (excO C t1) → Q .none ⟨h', g, d, t, os⟩) :
    wpAny (model prog w) A (call (.ref u) rest) Q E ⟨h, g, d, t, os⟩ := by
  refine wpAny_call (codeAny_of_tree ?_)
  show wpAny _ A.in1 (callAny (.ref u) ⟨rest, []⟩) _ _ _
  unfold callAny
  refine wpAny_bind (wpAny_load hu ?_)
  simp only [kxs_mw, show (Value.type "method-wrapper" == Value.type "method" || Value.type "method-wrapper" == Value.type "builtin_function_or_method" || Value.type "method-wrapper" == Value.type "method-wrapper") = true by decide, if_true]
  refine KFB.if_so (by decide) ?_
  refine wpAny_bind (PySem.ESX.check_bound F.excBase_ValueError hC he rfl ?_)
  refine wpAny_bind (wpAny_pure (wpAny_pure ?_))
  refine ⟨Code.quiet_builtin _ (by decide +kernel), codeAny_builtin F.excBase_ValueError.initEntry ?_⟩
  rw [Around.under_plainId F.excBase_ValueError.init.plain _]
  wp_walk
  refine hq _ h.objs.size (fun b o hb ho => ?_) ?_
  · rw [Heap.get?_update_other _ _ (Ne.symm hb)]
    exact Heap.get?_push_of_some _ ho
  · rw [Heap.get?_update_self _ (Heap.get?_push_of_some _ he) rfl]
    rfl
end
section
variable {prog : Program} {w : World} {A : Around} {E : Value → Shared → Prop} {R : Result → Shared → Prop} {s : Shared} {K : Frag} {mg mb : Str → Option Value} {nm qn : Str} {C fI : Addr}
theorem bt_init (T : BtTxt prog K mg nm qn C fI) {x t0 : Addr} {i : Int} {tk : Tok} (X : K.In s.heap) (G : s.heap.Ns mainGlobals mg) (B : s.heap.Ns builtinsNs mb) (hB : ∀ x : Str, x ≠ "__name__" → mb x = bootBuiltins x) (hlim : s.heap.NoLimit) (hx : s.heap.get? x = some (excO C t0)) (hxK : ∀ o, K.lookup x ≠ some o)
    (hroom : A.depth < recursionLimit) (hz : i.natAbs.log2 < 1920)
    (hq : ∀ h' tk' dx t1, InitEnd s.heap h' x C dx t1 (.int i tk) → R (.ok (.ret .none)) { s with heap := h', toks := tk' }) :
    codeAny (model prog w) A (.call (.ref fI) ⟨[.ref x, .int i tk], []⟩) R s := by
  obtain ⟨oc, od, doc, pm, an, ct, osl, msg, p, cc, cda, ccl, cl, cdd, cld, vs, ccs, csl, file, tf, ho, hcd, hcda, hvs, hfile, hcc, hmsg, hrow⟩ := T.fn
  obtain ⟨n, q, N, bs, bm, sn, sub, ab, col, dd, k0, k1, k2, k3, k5, hC, hbm, hal⟩ := T.cls
  have hcl : clsIn K C = some { name := n, bases := bs, mro := .ref C :: bm, ns := N, qualname := q, hasDict := true, slotNames := sn, subclasses := sub, abstract := ab, collection := col, hasDel := false } := by unfold clsIn; rw [hC] <;> rfl
  refine ks_codeAny_call_defAt (binds := [("self", .ref x), ("at", .int i tk)]) hroom (X _ _ ho) rfl hlim (codeRec_of X hcd) rfl (BindsTo.of_eq (by first | rfl | with_unfolding_all rfl)) (show ∀ y ∈ tS.names, y.2 ≠ .cell by decide) (fun y hy => ?_) (fun h₁ hns k₁ => ?_) rfl rfl rfl
  · rcases List.mem_cons.mp hy with rfl | hy
    · rfl
    · rcases List.mem_cons.mp hy with rfl | hy
      · rfl
      · cases hy
  have X₁ : K.In h₁ := X.keeps k₁
  have hx₁ := k₁ _ _ hx
  have hxC : x ≠ C := fun z => by
    have e := X _ _ hC
    rw [← z, hx] at e
    cases e
  have mself : (fun y : Str => List.lookup y ([("self", Value.ref x), ("at", .int i tk)] : List (Str × Value)).reverse) "self" = some (.ref x) := by rfl
  have mat : (fun y : Str => List.lookup y ([("self", Value.ref x), ("at", .int i tk)] : List (Str × Value)).reverse) "at" = some (.int i tk) := by rfl
  generalize (fun y : Str => List.lookup y ([("self", Value.ref x), ("at", .int i tk)] : List (Str × Value)).reverse) = m at hns mself mat
  obtain ⟨pl, he⟩ := hrow (callEnv (ksFn "__init__" qn (tA p) (tB msg p) tS .none .none doc pm an (.ref cda) ct cc) s.heap.objs.size fI)
  refine ks_wpAt_execs_cons (ks_wpAt_Expr_any (ks_wpAt_MethodCall (pl := pl) ?_ he))
  refine ks_wpAt_super_base (fd := ksFn "__init__" qn (tA p) (tB msg p) tS .none .none doc pm an (.ref cda) ct cc) (f := fI) (cc := cda) (by rfl) (by rfl) (by decide) rfl (X₁ _ _ ho) rfl rfl rfl (X₁ _ _ hcda) rfl hvs hfile T.top ?_
  refine ks_loadName_global (by rfl) (by rfl) (loadGlobal_builtin (G.keeps k₁) T.sup (B.keeps k₁) ((hB _ (by decide)).trans (show bootBuiltins "super" = some (.type "super") by decide +kernel)) ⟨rfl, ?_⟩)
  refine wpAny_loadName_free (by rfl) (by rfl) rfl ⟨_, X₁ _ _ hcc, rfl⟩ ?_
  refine wpAny_loadName_local (by rfl) (by rfl) hns mself ?_
  refine ks_wpAny_isType_cls (X₁ _ _ hC) rfl ⟨rfl, ?_⟩
  refine ks_wpAny_call_super (X₁ _ _ hC) rfl hx₁ rfl (fun c e => by cases e) (looks_mroIn X₁ T.seC) (fun h₂ e₂ k₂ => ?_)
  have X₂ : K.In h₂ := X₁.keeps k₂
  have hx₂ := k₂ _ _ hx₁
  have hm : Looks (model prog w) h₂ (mroOf (.ref C)) (.ref C :: bm) := (looks_clsIn X₂ hcl).andThen .now
  have hin : Looks (model prog w) h₂ (isInstance (.ref x) (.type "ValueError")) true := (show InstAt h₂ x (excO C t0) C none from ⟨hx₂, rfl, rfl, trivial⟩).type.andThen (looks_subIn X₂ T.veC)
  refine kxs_getMethod kxs_ValueError e₂ (looks_opaque X₂ T.opq) hm (l := bm) (by simp [List.dropWhile_cons]) X₂ hal hin hxC (by decide) ?_
  -- the argument, the call
  have hu : (h₂.push (kxs_mw "ValueError.__init__" x)).get? h₂.objs.size = some (kxs_mw "ValueError.__init__" x) := Heap.get?_push_at rfl rfl
  have k₃ : ∀ b o, h₂.get? b = some o → (h₂.push (kxs_mw "ValueError.__init__" x)).get? b = some o := fun b o e => Heap.get?_push_of_some _ e
  generalize h₂.push (kxs_mw "ValueError.__init__" x) = h₃ at hu k₃ ⊢
  have X₃ : K.In h₃ := X₂.keeps k₃
  have hx₃ := k₃ _ _ hx₂
  have hns₃ := (hns.keeps k₂).keeps k₃
  refine kxs_callWith (i := "ValueError.__init__") (x := x) rfl (evalArgs_plain ?_)
  show wpAny _ _ (spliced ((false, eval (tJ msg p) _) :: backTo (p 9) (starEach [] _))) _ _ _
  refine Calls.spliced_cons ?_
  have hz1 := int_text_len_1921 hz
  have hs := sizeLine_eq
  refine wpAny_JoinedStr ?_
  show wpAny _ _ (eval (.Constant (.str msg) 0 (p 5)) _) _ _ _
  refine Calls.Constant_str ?_
  refine ⟨msg, _, rfl, (by rw [Str.empty_append]; omega), ?_⟩
  show wpAny _ _ (eval (.FormattedValue (.Name "at" (p 6)) (-1) none (p 7)) _) _ _ _
  refine wpAny_FormattedValue_plain ?_
  refine wpAny_Name (wpAny_loadName_local (by rfl) (by rfl) hns₃ mat ?_) (by decide)
  refine wpAny_formatField_int hz ?_
  refine ⟨_, _, rfl, (by rw [Str.empty_append, Str.length_append]; omega), ?_⟩
  show (_ : Str).length ≤ sizeLine ∧ _
  refine ⟨(by rw [Str.empty_append, Str.length_append]; omega), ?_⟩
  refine Calls.spliced_nil ?_
  refine ⟨hu, ?_⟩
  refine call_mw (X₃ _ _ hC) hx₃ hu (one_size _) (fun h₄ t1 k₄ hx₄ => ?_)
  have X₄ : K.In h₄ := fun a o e => k₄ a o (fun z => by rw [z] at e; exact hxK _ e) (X₃ a o e)
  have hxL : s.heap.objs.size ≠ x := Nat.ne_of_gt (Heap.lt_size hx)
  have hns₄ := hns₃.at (fun o q => k₄ _ o hxL q)
  show wpAt _ _ _ _ _ _ _
  refine ks_wpAt_execs_cons (ks_wpAt_Assign_Attr ?_)
  refine wpAt_of_wpAny (wpAny_Name (wpAny_loadName_local (by rfl) (by rfl) hns₄ mat ?_) (by decide))
  refine wpAny_Name (wpAny_loadName_local (by rfl) (by rfl) hns₄ mself ?_) (by decide)
  refine set_plain X₄ (ox := excO C t1) (od := none) ⟨hx₄, rfl, rfl, trivial⟩ T.sa ?_
  refine exc_osa X₄ hx₄ hcl (show refsVE (.ref C :: bm) = true from hbm) rfl T.noN (fun h₅ tk₅ dx k₅ dn dne hx₅ hn₅ => ?_)
  refine wpAt_of_wpAny (wpAny_execs_nil ?_)
  refine hq h₅ tk₅ dx t1 ⟨fun b o hb e => k₅ b o hb (k₄ b o hb (k₃ b o (k₂ b o (k₁ b o e)))), hx₅, Nat.le_of_lt (Nat.lt_of_lt_of_le hns₄.lt dn), dne, hn₅⟩
theorem bt_made (T : BtTxt prog K mg nm qn C fI) {i : Int} {tk : Tok} (X : K.In s.heap) (G : s.heap.Ns mainGlobals mg) (B : s.heap.Ns builtinsNs mb) (hB : ∀ x : Str, x ≠ "__name__" → mb x = bootBuiltins x) (hlim : s.heap.NoLimit)
    (hroom : A.depth + 1 < recursionLimit) (hz : i.natAbs.log2 < 1920)
    (hq : ∀ h' tk' e d, OwnMade s.heap h' e C d (.int i tk) → R (.ok (.ret (.ref e))) { s with heap := h', toks := tk' }) :
    codeAny (model prog w) A (.call (.ref C) ⟨[.int i tk], []⟩) R s := by
  obtain ⟨n, q, N, bs, bm, sn, sub, ab, col, dd, k0, k1, k2, k3, k5, hC, hbm, hal⟩ := T.cls
  obtain ⟨hp, g, dr, t, os⟩ := s
  have k : ∀ b o, hp.get? b = some o → ((hp.push (kdv_tup [.int i tk])).push (excO C hp.objs.size)).get? b = some o := fun b o e => Heap.get?_push_of_some _ (Heap.get?_push_of_some _ e)
  have hget : ((hp.push (kdv_tup [.int i tk])).push (excO C hp.objs.size)).get? (hp.objs.size + 1) = some (excO C hp.objs.size) := by heap_get
  have hnx : ∀ o, K.lookup (hp.objs.size + 1) ≠ some o := fun o e => by
    have z : hp.get? (hp.objs.size + 1) = some o := X _ _ e
    exact absurd (Nat.lt_of_succ_lt (Heap.lt_size z)) (Nat.lt_irrefl _)
  refine call_own F.excBase_ValueError (fun X => refsVE_contains X bm hbm) (X _ _ hC) (looks_findIn X T.iC) (fun self => bind_fn X self T.tC) (one_size _) ?_
  refine bt_init (s := ⟨(hp.push (kdv_tup [.int i tk])).push (excO C hp.objs.size), g, dr, t, os⟩) T (X.keeps k) (G.keeps k) (B.keeps k) hB (hlim.keeps k) hget hnx ?_ hz fun h' tk' dx t1 ⟨k', hx, dn, dne, hns⟩ => ?_
  · show A.depth + 1 < recursionLimit
    exact hroom
  · have old : ∀ b o, hp.get? b = some o → h'.get? b = some o := fun b o e => k' b o (Nat.ne_of_lt (Nat.lt_succ_of_lt (Heap.lt_size e))) (k b o e)
    have z : hp.objs.size + 1 + 1 ≤ dx := by
      first
        | (simpa only [Heap.size_push] using dn)
        | exact dn
        | (have q := dn; rw [Heap.size_push, Heap.size_push] at q; exact q)
    exact ⟨rfl, hq h' tk' (hp.objs.size + 1) dx ⟨old, Nat.le_succ _, ⟨_, _, hx, rfl, rfl, rfl, rfl⟩, Nat.le_trans (Nat.le_trans (Nat.le_succ _) (Nat.le_succ _)) z, dne, hns⟩⟩
end
end BtX
end PySem
namespace NG
open PySem PySem.Spec PyProof.Rows L2

end NG
namespace L2
open PySem PySem.Spec PyProof.Rows
theorem relO_at {v : V} {v' : Value} (r : RelV v v') (f : Str) : RelO (List.lookup f [(("at" : Str), v)]) (if f = "at" then some v' else none) := by
  by_cases hw : f = "at"
  · subst hw
    rw [if_pos rfl]
    have q : List.lookup ("at" : Str) [(("at" : Str), v)] = some v := by simp [List.lookup]
    rw [q]
    exact r
  · rw [if_neg hw]
    have qw : (f == ("at" : Str)) = false := by simpa using hw
    have q2 : List.lookup f [(("at" : Str), v)] = none := by simp [List.lookup, qw]
    rw [q2]
    trivial
section
variable {X : Cx} {C fI : Addr} {nm qn : Str}
/-- the own error of e -/
def tMkBt (C : Addr) (ta : TA) : St → Hp → XK → Prop := fun σ H Q => ta σ H fun vs H1 => ∃ i : Int, vs = [.int i] ∧ i.natAbs.log2 < 1920 ∧ ∀ d, H1 d = none → Q (.ref C) (some d) (upd H1 d (.xd [(("at" : Str), .int i)]))
theorem pmk_bt {a : Expr} {ta : TA} {p pos : Pos} {k : Nat} (T : PySem.BtX.BtTxt X.prog X.K X.mg nm qn C fI) (hr : Room (k + 1) X.A) (ha : PA X [a] ta) (hg : Gl X nm)
    (hdb : (nm == ("__debug__" : Str)) = false := by decide)
    (he : starEach (a :: []) X.env = (false, eval a X.env) :: starEach [] X.env := by rfl) (hpl : (backTo pos (starEach [] X.env)).any (·.1) = false := by rfl) :
    PMk X (.Call (.Name nm p) [a] [] pos) (tMkBt C ta) := by
  intro pins s σ H Q I h
  refine wpAny_Call_Name_kw (ld_glob I hg T.gC ?_ hdb)
  refine PySem.W.callWith_K (h₀ := X.base) I.ok.mod.kin T.kC (thn (ha.run pos pins s σ H _ I h) fun us s1 hh => ?_) he hpl
  obtain ⟨vs, H1, I1, r1, v, ev, hz, q1⟩ := hh
  subst ev
  refine ⟨I1.kIn, ?_⟩
  cases r1 with
  | cons rv rn =>
    rename_i v' us'
    cases rn
    show wpAny _ _ (call (.ref C) [v']) _ _ _
    have rv0 := rv
    obtain ⟨tkv, rfl⟩ := rv0
    have hlim := I1.nolimit
    obtain ⟨mb, hB0, hB⟩ := I1.mod.blt
    have hG := I1.mod.glob.keeps I1.bk
    have hBB := hB0.keeps I1.bk
    obtain ⟨hp, g, dr, tk, os⟩ := s1
    refine wpAny_call (PySem.BtX.bt_made T I1.kIn hG hBB hB hlim (by have := hr.dp; omega) hz fun h' tk' e d M => ?_)
    show MkP X pins σ Q (.ref e) ⟨h', g, dr, tk', os⟩
    obtain ⟨oe, fv, hoe, hc, hd, hdat, h1⟩ := M.obj
    have hns := M.ns
    obtain ⟨G', g1, g2⟩ := restrict h' fun b => decide (b ≠ e)
    have gk : ∀ b, b ≠ e → G'.get? b = h'.get? b := fun b hb => g1 b (decide_eq_true hb)
    have ge : G'.get? e = none := g2 e (by simp)
    have old : ∀ b o, hp.get? b = some o → G'.get? b = some o := fun b o q => (gk b (Nat.ne_of_lt (Nat.lt_of_lt_of_le (Heap.lt_size q) M.new))).trans (M.keep b o q)
    have ob : ObjOk X.prog X.w (upd H1 d (.xd [(("at" : Str), .int v)])) G' d (.xd [(("at" : Str), .int v)]) :=
      ⟨_, hns.at (fun o q => (gk d M.dne).trans q), fun f => relO_at rv f⟩
    have J : Inv X pins σ (upd H1 d (.xd [(("at" : Str), .int v)])) ⟨G', g, dr, tk', os⟩ := I1.laid (t' := tk') old M.dbig ob
    refine ⟨e, oe, fv, ⟨G', g, dr, tk', os⟩, _, .ref C, some d, rfl, J, fun b o q => ?_, ge, hoe, ⟨hc, hd⟩, hdat, h1, ?_, rfl, I1.bare, raises_own T.exC T.tyC, q1 d (I1.hok.fresh M.dbig)⟩
    · by_cases hb : b = e
      · have q' : G'.get? b = some o := q
        rw [hb, ge] at q'; cases q'
      · exact (gk b hb).symm.trans q
    · rw [upd_ne (Ne.symm M.dne)]
      exact I1.hok.fresh M.new
/-- raise it -/
def tRaiseBt (C : Addr) (W : WX) (ta : TA) : TS := fun _ σ H => tMkBt C ta σ H fun cls d H' => W cls d σ H'
theorem ps_raiseBt {a : Expr} {ta : TA} {W : WX} {p pos pos2 : Pos} {k : Nat} (hc : X.calm = true) (tk : Takes X W) (T : PySem.BtX.BtTxt X.prog X.K X.mg nm qn C fI) (hr : Room (k + 1) X.A) (ha : PA X [a] ta) (hg : Gl X nm := by rfl)
    (hdb : (nm == ("__debug__" : Str)) = false := by decide)
    (he : starEach (a :: []) X.env = (false, eval a X.env) :: starEach [] X.env := by rfl) (hpl : (backTo pos (starEach [] X.env)).any (·.1) = false := by rfl) :
    PS X (.Raise (some (.Call (.Name nm p) [a] [] pos)) none pos2) (tRaiseBt C W ta) := ps_raise hc tk (pmk_bt T hr ha hg hdb he hpl)
/-- e.at, e the exception that the suite holds (at a; its class cls, its dict d) -/
def tAtBt (C : Addr) (a : Addr) (cls : Value) (d : Option Addr) (te : TE) : TE := fun σ H Q => te σ H fun x H1 => x = .ref a ∧ cls = .ref C ∧ ∃ (dd : Addr) (v : V), d = some dd ∧ H1 dd = some (.xd [(("at" : Str), v)]) ∧ Q v H1
theorem pe_atBt {a : Addr} {oe : Obj} {cls : Value} {d : Option Addr} {pn : List (Addr × Obj)} {e : Expr} {te : TE} {pos : Pos} (T : PySem.BtX.BtTxt X.prog X.K X.mg nm qn C fI) (hz : Zc cls d oe) (hf : ∃ vs, oe.data = .fields vs) (he : PE (X.suite a ((a, oe) :: pn)) e te)
    (hb : attributeBase e "at" X.env (eval e X.env) = eval e X.env := by rfl) :
    PE (X.suite a ((a, oe) :: pn)) (.Attribute e "at" pos) (tAtBt C a cls d te) := by
  refine ⟨fun pins s σ H Q I h => ?_⟩
  refine attr_of hb (thn (he.run pins s σ H _ I h) fun u s1 hh => ?_)
  obtain ⟨x, H1, I1, rx, ex, ec, dd, v, ed, ea, q⟩ := hh
  subst ex
  obtain rfl : u = Value.ref a := rx
  subst ec
  subst ed
  obtain ⟨ha, _⟩ := I1.pin (a, oe) (List.mem_append_left _ List.mem_cons_self)
  obtain ⟨vs, hd⟩ := hf
  have hx : ObjOk X.prog X.w H1 s1.heap dd (.xd [(("at" : Str), v)]) := I1.hok dd _ ea
  obtain ⟨mA, hns, hr⟩ := hx
  obtain ⟨od, ho, hl⟩ := lookIn_ns hns
  have l : List.lookup ("at" : Str) [(("at" : Str), v)] = some v := by simp [List.lookup]
  obtain ⟨u, hu, ru⟩ := RelO.some_of (v := v) (o := mA "at") (by rw [← l]; exact hr "at")
  have J : PySem.W.InstAt s1.heap a oe C (some od) := ⟨ha, hz.1, by unfold PySem.W.notCls; rw [hd] <;> rfl, by rw [hz.2]; exact ho⟩
  exact HandSPX.exc_get I1.kIn J T.ga T.gg T.exC (PySem.W.findObj_own T.hdC T.noN rfl (by rw [hl, hu])) (handed_of ru) ⟨v, H1, I1.tok _, ru, q⟩
end
end L2
namespace NG
open PySem PySem.Spec PyProof.Rows L2

/-! ### short readings -/
/-- small side conditions -/
local macro_rules | `(tactic| walk_at "sd") => `(tactic| (first
  | omega
  | assumption
  | rfl
  | decide
  | exact .inr ⟨by decide, by decide⟩
  | exact .inl ⟨by decide, by decide⟩
  | exact ⟨by first | assumption | decide | omega, by first | assumption | decide | omega⟩
  | exact ⟨by decide, by decide, by decide⟩))
/-- reads on while what is asked is plain: a slot, two ints, an item at a written place, a test's answer -/
local macro_rules | `(tactic| walk_at "rd") => `(tactic| repeat (first
  | refine ⟨_, rfl, ?_⟩
  | refine ⟨_, _, rfl, rfl, ?_⟩
  | refine ⟨_, _, _, _, rfl, rfl, (by first | assumption | exact upd_same | exact .inl (.inl upd_same)), (by rfl), ?_⟩
  | refine ⟨_, _, rfl, .inl (by first | assumption | exact .inl (.inl upd_same)), ?_⟩
  | refine ⟨_, _, rfl, .inr (by first | assumption | exact .inl (.inl upd_same)), ?_⟩
  | refine ⟨_, _, _, _, _, rfl, (by first | assumption | exact upd_same), (by assumption), (by assumption), (by rfl), ?_⟩
  | refine ⟨_, _, _, _, rfl, (by first | assumption | exact upd_same), (by assumption), (by assumption), lt1000 (by rfl), ?_⟩
  | refine .inl ⟨_, rfl, ?_⟩
  | refine And.intro (by walk_at "sd") ?_))
/-- isinstance of a value whose type is known, by a built-in class -/
local macro_rules | `(tactic| walk_at "isi") => `(tactic| first
  | refine ⟨_, _, _, _, true, rfl, .ty _, (by assumption), kit_ty (by decide +kernel), ?_⟩
  | refine ⟨_, _, _, _, false, rfl, .ty _, (by assumption), kit_ty (by decide +kernel), ?_⟩)
/-- as rd; and where a test's answer is known -/
local macro_rules | `(tactic| walk_at "go") => `(tactic| repeat (first
  | refine ⟨_, rfl, ?_⟩
  | refine ⟨_, _, rfl, rfl, ?_⟩
  | refine ⟨_, _, _, _, rfl, rfl, (by first | assumption | exact upd_same | exact .inl (.inl upd_same)), (by rfl), ?_⟩
  | refine ⟨_, _, rfl, .inl (by first | assumption | exact .inl (.inl upd_same)), ?_⟩
  | refine ⟨_, _, rfl, .inr (by first | assumption | exact .inl (.inl upd_same)), ?_⟩
  | refine ⟨_, _, _, _, _, rfl, (by first | assumption | exact upd_same), (by assumption), (by assumption), (by rfl), ?_⟩
  | refine ⟨_, _, _, _, rfl, (by first | assumption | exact upd_same), (by assumption), (by assumption), lt1000 (by rfl), ?_⟩
  | refine .inl ⟨_, rfl, ?_⟩
  | walk_at "isi"
  | refine iteT ?_
  | refine iteF ?_
  | refine And.intro (by walk_at "sd") ?_))

/-! ### house: words -/
def KEYS : List Str := ["good", "member", "has", "talk", "recipe", "cost", "times", "needs", "takes", "gives", "order", "pays"]
/-- what the head says of the module's constants -/
structure HT (P : Program) (K : PySem.W.Frag) (mg : Str → Option Value) (kw C fI : Addr) : Prop where
  bt : PySem.BtX.BtTxt P K mg "BadText" "BadText.__init__" C fI
  gk : mg "KEY_WORDS" = some (.ref kw)
  sk : ∀ H, SqT K H kw (KEYS.map V.str)
  i1 : ∃ t, mg "MOST_LETTERS" = some (.int 8 t)
  i2 : ∃ t, mg "MOST_DIGITS" = some (.int 4 t)
  i3 : ∃ t, mg "MOST_GOODS" = some (.int 4 t)
  i4 : ∃ t, mg "MOST_MEMBERS" = some (.int 5 t)
  i5 : ∃ t, mg "MOST_RECIPES" = some (.int 3 t)
  i6 : ∃ t, mg "MOST_TIMES" = some (.int 4 t)
  i7 : ∃ t, mg "MOST_NEEDS" = some (.int 2 t)
  i8 : ∃ t, mg "MOST_ORDERS" = some (.int 4 t)
/-- the words in the list at w -/
structure Ws (K : PySem.W.Frag) (H : Hp) (w : Addr) (ws : List Str) : Prop where
  sq : SqL K H w (ws.map V.str)
  few : ws.length ≤ 100000
  short : ∀ x ∈ ws, x.length ≤ 100000
def wordAt (ws : List Str) (i : Nat) : Str := ws[i]?.getD Str.empty
def leS (a b : Str) : Bool := !decide (b.cps.toList < a.cps.toList)
def letterS (c : Nat) : Bool := leS "a" ⟨#[c]⟩ && leS ⟨#[c]⟩ "z"
def digitS (c : Nat) : Bool := leS "0" ⟨#[c]⟩ && leS ⟨#[c]⟩ "9"
def isName (x : Str) : Bool := decide (1 ≤ x.length) && (decide (x.length ≤ 8) && (!(inV (.str x) (KEYS.map V.str)) && x.cps.toList.all letterS))
def isNumber (x : Str) : Bool := decide (1 ≤ x.length) && (decide (x.length ≤ 4) && ((decide (x = "0") || !(decide (x.cps[0]? = some 48))) && x.cps.toList.all digitS))
def spIsName : Sp := fun vs H Q _ => ∃ x : Str, vs = [.str x] ∧ x.length ≤ 100000 ∧ ∀ H', Same H H' → Q (.bl (isName x)) H'
def spIsNumber : Sp := fun vs H Q _ => ∃ x : Str, vs = [.str x] ∧ x.length ≤ 100000 ∧ ∀ H', Same H H' → Q (.bl (isNumber x)) H'
theorem len_empty : Str.empty.length = 0 := by decide
theorem wordAt_short {K : PySem.W.Frag} {H : Hp} {w : Addr} {ws : List Str} (h : Ws K H w ws) (i : Nat) : (wordAt ws i).length ≤ 100000 := by
  unfold wordAt
  cases e : ws[i]? with
  | none => exact Nat.zero_le _
  | some x => exact h.short x (List.mem_of_getElem? e)
/-- a comprehension over a text whose items are told sign by sign -/
theorem lc_text {z : Str} {i : Nat} {te : TE} {vs : List Nat} {σ : L2.St} {H1 : Hp} {D : Addr} {Qd : Hp → Prop} (pb : Nat → Bool) (hz : z.length ≤ 100000)
    (hw : ∀ c : Nat, wipe ((wipe σ vs).set i (some (.str ⟨#[c]⟩))) vs = wipe σ vs)
    (hte : ∀ (c : Nat) (H : Hp) (Q' : VK), Q' (.bl (pb c)) H → te ((wipe σ vs).set i (some (.str ⟨#[c]⟩))) H Q') (q : Qd (upd H1 D (.lst (z.cps.toList.map fun c => V.bl (pb c))))) :
    ∃ W : Nat → Nat → Hp → Prop, (∃ m, W 0 m (upd H1 D (.lst []))) ∧ ∀ k m H, W k m H →
      ((Its z).stop k H ∧ Qd H) ∨ ((Its z).go k H ∧ ∃ Nx : Hp → Prop, (∀ H', Nx H' → ∃ m', m' < m ∧ W (k + 1) m' H') ∧ ∀ x H', (Its z).yld k H x H' → gName i x (wipe σ vs) H' fun σ2 H2 => wipe σ2 vs = wipe σ vs ∧ tYes σ2 H2 fun b H3 =>
        if b = true then te σ2 H3 fun y H4 => ∃ acc, H4 D = some (.lst acc) ∧ acc.length < sizeLine ∧ Nx (upd H4 D (.lst (acc ++ [y]))) else Nx H3) := by
  refine lc_it walk_str (fun k H => H = upd H1 D (.lst ((z.cps.toList.take k).map fun c => V.bl (pb c)))) rfl (fun _ _ _ _ => trivial) ?_ ?_
  · rintro k x H H' hk rfl ⟨rfl, c, hc, rfl⟩
    refine ⟨hw c, ?_⟩
    unfold tYes
    dsimp only
    rw [if_pos rfl]
    refine hte c _ _ ⟨_, upd_same, ?_, ?_⟩
    · have hs := sizeLine_eq
      have hl : z.cps.size ≤ 100000 := hz
      rw [List.length_map, List.length_take]
      omega
    · rw [upd_upd, List.take_succ_eq_append_getElem (by simpa using hk), List.map_append]
      have e : z.cps.toList[k]'(by simpa using hk) = c := by
        rw [Array.getElem_toList]
        exact (Array.getElem?_eq_some_iff.mp hc).2
      rw [e]
      rfl
  · rintro H rfl
    have e : z.cps.toList.take z.cps.size = z.cps.toList := by
      rw [← Array.length_toList, List.take_length]
    rw [e]
    exact q
theorem all_bl (l : List Nat) (pb : Nat → Bool) : (l.map pb).all id = l.all pb := by
  rw [List.all_map]
  rfl
def leR : R2 := fun x y H Q => ∃ i j, x = .str i ∧ y = .str j ∧ Q (.bl (!decide (j.cps.toList < i.cps.toList))) H
theorem chain_le {a b m : Str} {σ : L2.St} {j : Nat} {H : Hp} {Q : VK} (hj : σ[j]? = some (some (.str m))) (q : Q (.bl (leS a m && leS m b)) H) : tChain leR leR (tC (.str a)) (tVar j) (tC (.str b)) σ H Q := by
  refine ⟨_, hj, _, _, rfl, rfl, _, rfl, ?_⟩
  cases e : leS a m with
  | true =>
    have e' : (!decide (m.cps.toList < a.cps.toList)) = true := e
    rw [e', if_pos rfl]
    rw [e, Bool.true_and] at q
    exact ⟨_, _, rfl, rfl, q⟩
  | false =>
    have e' : (!decide (m.cps.toList < a.cps.toList)) = false := e
    rw [e', if_neg Bool.false_ne_true]
    rw [e, Bool.false_and] at q
    exact q
/-- all([a <= sign <= b for sign in x]) has its answer -/
theorem all_end {K : PySem.W.Frag} {H : Hp} {D : Addr} {l : List Nat} {pb : Nat → Bool} {Q : VK} (hD : H D = none) (q : ∀ H', Same H H' → Q (.bl (l.all pb)) H') :
    rAll K [.ref D] (upd H D (.lst (l.map fun c => V.bl (pb c)))) Q :=
  ⟨D, l.map pb, rfl, .inl (.inl (by rw [List.map_map]; exact upd_same)), by rw [all_bl]; exact q _ (same_upd hD)⟩
section
variable {P : Program} {w : World} {K : PySem.W.Frag} {mg : Str → Option Value} {base : Heap} {f kw C fI : Addr} {fd : FuncData}
theorem ok__is_name (M : MB mg) (T : HT P K mg kw C fI) (F : FnP K "_is_name" s__is_name f fd) : FnOk P w K mg base CX0 1 f fd ["word"] spIsName := by
  have r_KEY_WORDS : RelV (.ref kw) (.ref kw) := rfl
  have g_KEY_WORDS := T.gk
  obtain ⟨t8, g_MOST_LETTERS⟩ := T.i1
  have r_MOST_LETTERS : RelV (.int 8) (.int 8 t8) := ⟨_, rfl⟩
  refine F.ok sc__is_name (fun vs H Q E h => ?_) (fun cdv A outer s H vs Q E hr h => ⟨_, PSs.nox (pss_cons (ps_if (PW.pt (pw_or (pt_not (pt_chain op_le op_le pe_int (pe_callB call_len_str (by rfl) M.len (by decide +kernel) (pa_cons (pv 0) pa_nil)) (pe_glob (by rfl) g_MOST_LETTERS r_MOST_LETTERS))) (pw_or1 (pt_cmpR op_in_seq (pv 0) (pe_glob (by rfl) g_KEY_WORDS r_KEY_WORDS) (by rfl))))) (pss_one (ps_ret pe_bl)) pss_nil)
  (pss_one (ps_ret (pe_callB (cr_all rfl) (by rfl) M.all (by decide +kernel) (pa_cons (pe_lc (own := [("sign", 1)]) (g := gName 1) (by rfl) sc__is_name.nd (pi_str (pv 0)) (blkOk_by (own := [("sign", 1)]) (N := N__is_name) (sc := defScope s__is_name) (by decide +kernel)) (fun _ _ _ _ _ => pg_name (i := 1) sc__is_name.nd rfl (.inl rfl)) (fun _ _ _ _ _ => pts_nil) (fun _ _ _ _ _ => (pe_chain op_le_str op_le_str pe_str (pv 1) pe_str))) pa_nil))))), ?_⟩)
  · obtain ⟨x, rfl, _⟩ := h
    rfl
  · obtain ⟨x, rfl, hx, q⟩ := h
    unfold isName at q
    have hs := sizeLine_eq
    refine ⟨_, rfl, _, rfl, by omega, _, _, rfl, rfl, _, rfl, ?_⟩
    by_cases c1 : (1 : Int) ≤ (x.length : Int)
    · rw [if_pos (decide_eq_true c1)]
      refine ⟨_, _, rfl, rfl, _, rfl, ?_⟩
      by_cases c2 : (x.length : Int) ≤ 8
      · show if (!decide ((x.length : Int) ≤ 8)) = true then _ else _
        rw [if_neg (by rw [decide_eq_true c2]; decide)]
        refine ⟨_, rfl, _, _, rfl, .inr (T.sk H), rfl, by decide, _, rfl, ?_⟩
        rw [decide_eq_true (show 1 ≤ x.length by omega), decide_eq_true (show x.length ≤ 8 by omega)] at q
        cases c3 : inV (.str x) (KEYS.map V.str) with
        | true =>
          rw [c3] at q
          show if (if false = true then _ else true) = true then _ else _
          rw [if_neg Bool.false_ne_true, if_pos rfl]
          exact q H fun _ _ e => e
        | false =>
          rw [c3] at q
          show if (if false = true then _ else false) = true then _ else _
          rw [if_neg Bool.false_ne_true, if_neg Bool.false_ne_true]
          refine ⟨_, rfl, x, rfl, fun D hD => ?_⟩
          refine lc_text letterS hx (fun _ => rfl) (fun c H Q' q' => ?_) ?_
          · exact chain_le rfl q'
          · refine all_end hD fun H' e => ?_
            have z := q H' e
            simp only [Bool.true_and, Bool.not_false] at z
            exact z
      · show if (!decide ((x.length : Int) ≤ 8)) = true then _ else _
        rw [if_pos (by rw [decide_eq_false c2]; rfl)]
        show if true = true then _ else _
        rw [if_pos rfl]
        rw [decide_eq_false (show ¬ x.length ≤ 8 by omega), Bool.false_and, Bool.and_false] at q
        exact q H fun _ _ e => e
    · rw [if_neg (by rw [decide_eq_false c1]; exact Bool.false_ne_true)]
      refine ⟨_, rfl, ?_⟩
      show if true = true then _ else _
      rw [if_pos rfl]
      rw [decide_eq_false (show ¬ 1 ≤ x.length by omega), Bool.false_and] at q
      exact q H fun _ _ e => e
theorem ok__is_number (M : MB mg) (T : HT P K mg kw C fI) (F : FnP K "_is_number" s__is_number f fd) : FnOk P w K mg base CX0 1 f fd ["word"] spIsNumber := by
  obtain ⟨t8, g_MOST_DIGITS⟩ := T.i2
  have r_MOST_DIGITS : RelV (.int 4) (.int 4 t8) := ⟨_, rfl⟩
  refine F.ok sc__is_number (fun vs H Q E h => ?_) (fun cdv A outer s H vs Q E hr h => ⟨_, PSs.nox (pss_cons (ps_if (PW.pt (pw_or (pt_not (pt_chain op_le op_le pe_int (pe_callB call_len_str (by rfl) M.len (by decide +kernel) (pa_cons (pv 0) pa_nil)) (pe_glob (by rfl) g_MOST_DIGITS r_MOST_DIGITS))) (pw_or1 (PW.pt (pw_and (pt_cmpR op_eq (pe_ix ix_str (pv 0) pe_int (fun _ _ => rfl)) pe_str (nomark _)) (pw_and1 (pt_cmpR op_ne (pv 0) pe_str (nomark _)))))))) (pss_one (ps_ret pe_bl)) pss_nil)
  (pss_one (ps_ret (pe_callB (cr_all rfl) (by rfl) M.all (by decide +kernel) (pa_cons (pe_lc (own := [("sign", 1)]) (g := gName 1) (by rfl) sc__is_number.nd (pi_str (pv 0)) (blkOk_by (own := [("sign", 1)]) (N := N__is_number) (sc := defScope s__is_number) (by decide +kernel)) (fun _ _ _ _ _ => pg_name (i := 1) sc__is_number.nd rfl (.inl rfl)) (fun _ _ _ _ _ => pts_nil) (fun _ _ _ _ _ => (pe_chain op_le_str op_le_str pe_str (pv 1) pe_str))) pa_nil))))), ?_⟩)
  · obtain ⟨x, rfl, _⟩ := h
    rfl
  · obtain ⟨x, rfl, hx, q⟩ := h
    unfold isNumber at q
    have hs := sizeLine_eq
    refine ⟨_, rfl, _, rfl, by omega, _, _, rfl, rfl, _, rfl, ?_⟩
    by_cases c1 : (1 : Int) ≤ (x.length : Int)
    · rw [if_pos (decide_eq_true c1)]
      refine ⟨_, _, rfl, rfl, _, rfl, ?_⟩
      by_cases c2 : (x.length : Int) ≤ 4
      · show if (!decide ((x.length : Int) ≤ 4)) = true then _ else _
        rw [if_neg (by rw [decide_eq_true c2]; decide)]
        rw [decide_eq_true (show 1 ≤ x.length by omega), decide_eq_true (show x.length ≤ 4 by omega)] at q
        obtain ⟨c, hc⟩ : ∃ c, x.cps[0]? = some c := ⟨x.cps[0]'(by have : x.length = x.cps.size := rfl; omega), Array.getElem?_eq_getElem _⟩
        have hc2 : x.cps.toList[0]? = some c := by rw [Array.getElem?_toList]; exact hc
        refine ⟨_, rfl, ⟨x, 0, c, rfl, rfl, by omega, atI_nat (j := 0) hc2, rfl, _, rfl, ?_⟩⟩
        have fin : ((decide (x = "0") || !(decide (x.cps[0]? = some 48))) = true) → tRet
            (tCB (rAll K) (tCons (tLc (iStr (tVar 0)) (gName 1) tYes (tChain leR leR (tC (.str "0")) (tVar 1) (tC (.str "9"))) [1]) tNil)) { nx := fun x H' => Q V.non H', rt := Q } (L2.start N__is_number [V.str x]) H := by
          intro e
          rw [e] at q
          refine ⟨_, rfl, x, rfl, fun D hD => ?_⟩
          refine lc_text digitS hx (fun _ => rfl) (fun c H Q' q' => ?_) ?_
          · exact chain_le rfl q'
          · refine all_end hD fun H' e => ?_
            have z := q H' e
            simp only [Bool.true_and] at z
            exact z
        by_cases c3 : c = 48
        · subst c3
          show if decide (V.str ⟨#[48]⟩ = V.str "0") = true then _ else _
          rw [if_pos (by decide)]
          refine ⟨_, rfl, rfl, _, rfl, ?_⟩
          by_cases c4 : x = "0"
          · show if (!decide (V.str x = V.str "0")) = true then _ else _
            rw [if_neg (by rw [decide_eq_true (congrArg V.str c4)]; decide)]
            exact fin (by rw [decide_eq_true c4, Bool.true_or])
          · show if (!decide (V.str x = V.str "0")) = true then _ else _
            rw [if_pos (by rw [decide_eq_false (fun z => c4 (V.str.inj z))]; rfl)]
            rw [decide_eq_false c4, decide_eq_true hc] at q
            exact q H fun _ _ e => e
        · show if decide (V.str ⟨#[c]⟩ = V.str "0") = true then _ else _
          have ne : ¬ V.str ⟨#[c]⟩ = V.str "0" := fun z => by
            have z1 : (⟨#[c]⟩ : Str) = ⟨#[48]⟩ := V.str.inj z
            have z2 := congrArg Str.cps z1
            simp at z2
            exact c3 z2
          rw [if_neg (by rw [decide_eq_false ne]; decide)]
          show if false = true then _ else _
          rw [if_neg Bool.false_ne_true]
          refine fin ?_
          have e3 : ¬ (x.cps[0]? = some 48) := by
            rw [hc]
            simp [c3]
          rw [decide_eq_false e3, Bool.not_false, Bool.or_true]
      · show if (!decide ((x.length : Int) ≤ 4)) = true then _ else _
        rw [if_pos (by rw [decide_eq_false c2]; rfl)]
        show if true = true then _ else _
        rw [if_pos rfl]
        rw [decide_eq_false (show ¬ x.length ≤ 4 by omega), Bool.false_and, Bool.and_false] at q
        exact q H fun _ _ e => e
    · rw [if_neg (by rw [decide_eq_false c1]; exact Bool.false_ne_true)]
      refine ⟨_, rfl, ?_⟩
      show if true = true then _ else _
      rw [if_pos rfl]
      rw [decide_eq_false (show ¬ 1 ≤ x.length by omega), Bool.false_and] at q
      exact q H fun _ _ e => e
end

/-! ### house: one word -/
theorem ifT {c : Bool} {A B : Prop} (e : c = true) (h : A) : if c = true then A else B := by
  rw [if_pos e]
  exact h
theorem ifF {c : Bool} {A B : Prop} (e : c = false) (h : B) : if c = true then A else B := by
  rw [e, if_neg Bool.false_ne_true]
  exact h
theorem sqL_same {K : PySem.W.Frag} {H H' : Hp} {a : Addr} {xs : List V} (e : Same H H') (h : SqL K H a xs) : SqL K H' a xs := by
  rcases h with (q | ⟨o, q⟩) | q
  · exact .inl (.inl (e _ _ q))
  · exact .inl (.inr ⟨o, e _ _ q⟩)
  · exact .inr q
theorem ws_same {K : PySem.W.Frag} {H H' : Hp} {w : Addr} {ws : List Str} (e : Same H H') (h : Ws K H w ws) : Ws K H' w ws := by
  exact ⟨sqL_same e h.sq, h.few, h.short⟩
/-- the error of word i is let out (what was tracked stands) -/
def ErrAt (C : Addr) (H : Hp) (E : XK) (i : Nat) : Prop := ∀ (H' : Hp) (d : Addr), Same H H' → H' d = none → E (.ref C) (some d) (upd H' d (.xd [(("at" : Str), .int (i : Nat))]))
theorem ErrAt.here {C : Addr} {H : Hp} {E : XK} {i : Nat} (h : ErrAt C H E i) : ∀ d, H d = none → E (.ref C) (some d) (upd H d (.xd [(("at" : Str), .int (i : Nat))])) := fun d hd => h H d (fun _ _ e => e) hd
theorem ErrAt.same {C : Addr} {H H1 : Hp} {E : XK} {i : Nat} (e : Same H H1) (h : ErrAt C H E i) : ErrAt C H1 E i := fun H' d e' hd => h H' d (e.trans e') hd
theorem nat_log {i : Nat} (h : i ≤ 1000000) : (i : Int).natAbs.log2 < 1920 := by
  rw [Int.natAbs_natCast]
  by_cases z : i = 0
  · subst z
    decide
  · exact (Nat.log2_lt z).mpr (Nat.lt_of_le_of_lt h (Nat.lt_of_lt_of_le (by decide : 1000000 < 2 ^ 20) (Nat.pow_le_pow_right (by decide) (by decide))))
def spWordAt (K : PySem.W.Frag) : Sp := fun vs H Q _ => ∃ (w : Addr) (ws : List Str) (i : Nat), vs = [.ref w, .int (i : Nat)] ∧ Ws K H w ws ∧ i ≤ 1000000 ∧ Q (.str (wordAt ws i)) H
def spWordIs (K : PySem.W.Frag) : Sp := fun vs H Q _ => ∃ (w : Addr) (ws : List Str) (i : Nat) (x : Str), vs = [.ref w, .int (i : Nat), .str x] ∧ Ws K H w ws ∧ i ≤ 1000000 ∧ Q (.bl (decide (wordAt ws i = x))) H
def spExpect (K : PySem.W.Frag) (C : Addr) : Sp := fun vs H Q E => ∃ (w : Addr) (ws : List Str) (i : Nat) (x : Str), vs = [.ref w, .int (i : Nat), .str x] ∧ Ws K H w ws ∧ i ≤ 1000000 ∧
  (wordAt ws i = x → Q .non H) ∧ (wordAt ws i ≠ x → ErrAt C H E i)
/-- a name that is not taken -/
def nameOk (ws : List Str) (i : Nat) (taken : List Str) : Bool := isName (wordAt ws i) && !(inV (.str (wordAt ws i)) (taken.map V.str))
def spNewName (K : PySem.W.Frag) (C : Addr) : Sp := fun vs H Q E => ∃ (w t : Addr) (ws : List Str) (i : Nat) (taken : List Str), vs = [.ref w, .int (i : Nat), .ref t] ∧ Ws K H w ws ∧ i ≤ 1000000 ∧ SqL K H t (taken.map V.str) ∧
  (nameOk ws i taken = true → ∀ H', Same H H' → Q (.str (wordAt ws i)) H') ∧ (nameOk ws i taken = false → ErrAt C H E i)
/-- the number that the word writes -/
def numOf (x : Str) : Nat := PySem.NumText.digitsVal x.cps.toList
def spNumber (K : PySem.W.Frag) (C : Addr) : Sp := fun vs H Q E => ∃ (w : Addr) (ws : List Str) (i : Nat), vs = [.ref w, .int (i : Nat)] ∧ Ws K H w ws ∧ i ≤ 1000000 ∧
  (isNumber (wordAt ws i) = true → ∀ H', Same H H' → Q (.int (numOf (wordAt ws i) : Nat)) H') ∧ (isNumber (wordAt ws i) = false → ErrAt C H E i)
/-- the first of the indexes whose name the word is -/
def oneOf (ws : List Str) (i : Nat) (names : List Str) (idx : List Nat) : Option Nat := idx.find? fun k => decide (wordAt ws i = names.getD k Str.empty)
def natV (l : List Nat) : List V := l.map fun n => V.int (n : Nat)
def spOneOf (K : PySem.W.Frag) (C : Addr) : Sp := fun vs H Q E => ∃ (w n x : Addr) (ws : List Str) (i : Nat) (names : List Str) (idx : List Nat), vs = [.ref w, .int (i : Nat), .ref n, .ref x] ∧ Ws K H w ws ∧ i ≤ 1000000 ∧ SqL K H n (names.map V.str) ∧ SqL K H x (natV idx) ∧
  (∀ k ∈ idx, k < names.length) ∧ names.length ≤ 1000 ∧ (∀ k, oneOf ws i names idx = some k → Q (.int (k : Nat)) H) ∧ (oneOf ws i names idx = none → ErrAt C H E i)
theorem digit_iff (c : Nat) : digitS c = true ↔ 48 ≤ c ∧ c ≤ 57 := by
  unfold digitS leS
  have e0 : (Str.ofString "0").cps.toList = [48] := by decide
  have e9 : (Str.ofString "9").cps.toList = [57] := by decide
  simp only [e0, e9, Bool.and_eq_true, Bool.not_eq_true', decide_eq_false_iff_not, List.cons_lt_cons_iff]
  simp
theorem number_text {x : Str} (h : isNumber x = true) : PySem.intText? x = some (numOf x : Nat) ∧ x.length ≤ 640 := by
  unfold isNumber at h
  simp only [Bool.and_eq_true, decide_eq_true_eq] at h
  obtain ⟨h1, h2, h3, h4⟩ := h
  have hl : x.cps.toList.length = x.length := Array.length_toList
  refine ⟨PySem.intText_digits (fun c hc => (digit_iff c).mp (List.all_eq_true.mp h4 c hc)) (fun z => ?_) (by omega), by omega⟩
  rw [z] at hl
  simp at hl
  omega
theorem find_at {α : Type} {l : List α} {p : α → Bool} {j : Nat} {k : α} (h : l[j]? = some k) (hn : (l.take j).find? p = none) (hp : p k = true) : l.find? p = some k := by
  obtain ⟨hj, hk⟩ := List.getElem?_eq_some_iff.mp h
  have e : l = l.take j ++ (k :: l.drop (j + 1)) := by
    rw [← hk, ← List.drop_eq_getElem_cons hj, List.take_append_drop]
  rw [e, List.find?_append, hn, List.find?_cons_of_pos hp]
  rfl
theorem find_more {α : Type} {l : List α} {p : α → Bool} {j : Nat} {k : α} (h : l[j]? = some k) (hn : (l.take j).find? p = none) (hp : p k = false) : (l.take (j + 1)).find? p = none := by
  obtain ⟨hj, hk⟩ := List.getElem?_eq_some_iff.mp h
  rw [List.take_succ_eq_append_getElem hj, List.find?_append, hn, hk, List.find?_cons_of_neg (by rw [hp]; decide)]
  rfl
section
variable {P : Program} {w : World} {K : PySem.W.Frag} {mg : Str → Option Value} {base : Heap} {f kw C fI : Addr} {fd : FuncData}
theorem ok__word_at (M : MB mg) (F : FnP K "_word_at" s__word_at f fd) : FnOk P w K mg base CX0 1 f fd ["words", "at"] (spWordAt K) := by
  refine F.ok sc__word_at (fun vs H Q E h => ?_) (fun cdv A outer s H vs Q E hr h => ⟨_, PSs.nox (pss_one (ps_ret (pe_ifExp (pt_cmpR op_lt (pv 1) (pe_callB call_len_seq (by rfl) M.len (by decide +kernel) (pa_cons (pv 0) pa_nil)) (nomark _)) (pe_ix ix_list (pv 0) (pv 1) (fun _ _ => rfl)) pe_str))), ?_⟩)
  · obtain ⟨x, ws, i, rfl, _⟩ := h
    rfl
  · obtain ⟨x, ws, i, rfl, hw, hi, q⟩ := h
    have hsq := hw.sq
    walk_at "rd"
    show if decide ((i : Int) < ((ws.map V.str).length : Int)) = true then _ else _
    unfold wordAt at q
    rw [List.length_map]
    by_cases c : i < ws.length
    · rw [if_pos (decide_eq_true (by omega))]
      rw [List.getElem?_eq_getElem c] at q
      refine ⟨_, rfl, _, rfl, _, _, _, _, rfl, rfl, hsq, atI_nat (j := i) (v := V.str ws[i]) (by rw [List.getElem?_map, List.getElem?_eq_getElem c]; rfl), q⟩
    · rw [if_neg (by rw [decide_eq_false (by omega)]; decide)]
      rw [List.getElem?_eq_none (by omega)] at q
      exact q
theorem ok__word_is (F : FnP K "_word_is" s__word_is f fd) (C__word_at : Callee P w K mg base CX0 "_word_at" ["words", "at"] 1 (spWordAt K)) : FnOk P w K mg base CX0 2 f fd ["words", "at", "word"] (spWordIs K) := by
  refine F.ok sc__word_is (fun vs H Q E h => ?_) (fun cdv A outer s H vs Q E hr h => ⟨_, PSs.nox (pss_one (ps_ret (pe_cmpR op_eq (pe_callC C__word_at (hr.mono (by first | decide | exact Nat.le_refl _ | omega)) (by rfl) (pa_cons (pv 0) (pa_cons (pv 1) pa_nil))) (pv 2) (nomark _)))), ?_⟩)
  · obtain ⟨x, ws, i, y, rfl, _⟩ := h
    rfl
  · obtain ⟨x, ws, i, y, rfl, hw, hi, q⟩ := h
    refine ⟨_, rfl, _, rfl, x, ws, i, rfl, hw, hi, _, rfl, rfl, ?_⟩
    have e : decide (V.str (wordAt ws i) = V.str y) = decide (wordAt ws i = y) := by
      rw [Bool.eq_iff_iff, decide_eq_true_iff, decide_eq_true_iff]
      exact ⟨V.str.inj, congrArg V.str⟩
    rw [e]
    exact q
theorem ok__expect (T : HT P K mg kw C fI) (F : FnP K "_expect" s__expect f fd) (C__word_is : Callee P w K mg base CX0 "_word_is" ["words", "at", "word"] 2 (spWordIs K)) : FnOk P w K mg base (L2.CX P w) 3 f fd ["words", "at", "word"] (spExpect K C) := by
  refine F.ok sc__expect (fun vs H Q E h => ?_) (fun cdv A outer s H vs Q E hr h => ⟨_, (pss_one (ps_if (pt_not (pt_val (pe_callC C__word_is (hr.mono (by first | decide | exact Nat.le_refl _ | omega)) (by rfl) (pa_cons (pv 0) (pa_cons (pv 1) (pa_cons (pv 2) pa_nil)))))) (pss_one (ps_raiseBt rfl (takes_of rfl rfl rfl rfl) T.bt (hr.mono (by first | decide | exact Nat.le_refl _ | omega) : Room (0 + 1) _) (pa_cons (pv 1) pa_nil) (by rfl))) pss_nil)), ?_⟩)
  · obtain ⟨x, ws, i, y, rfl, _⟩ := h
    rfl
  · obtain ⟨x, ws, i, y, rfl, hw, hi, q, e⟩ := h
    refine ⟨_, rfl, _, rfl, _, rfl, x, ws, i, y, rfl, hw, hi, _, rfl, ?_⟩
    show if (!decide (wordAt ws i = y)) = true then _ else _
    by_cases c : wordAt ws i = y
    · rw [if_neg (by rw [decide_eq_true c]; decide)]
      exact q c
    · rw [if_pos (by rw [decide_eq_false c]; rfl)]
      exact ⟨_, rfl, _, rfl, nat_log hi, (e c).here⟩
theorem ok__new_name (T : HT P K mg kw C fI) (F : FnP K "_new_name" s__new_name f fd) (C__word_at : Callee P w K mg base CX0 "_word_at" ["words", "at"] 1 (spWordAt K)) (C__is_name : Callee P w K mg base CX0 "_is_name" ["word"] 1 spIsName) :
    FnOk P w K mg base (L2.CX P w) 2 f fd ["words", "at", "taken"] (spNewName K C) := by
  refine F.ok sc__new_name (fun vs H Q E h => ?_) (fun cdv A outer s H vs Q E hr h => ⟨_, (pss_cons (ps_set (i := 3) sc__new_name.nd rfl (.inl rfl) (pe_callC C__word_at (hr.mono (by first | decide | exact Nat.le_refl _ | omega)) (by rfl) (pa_cons (pv 0) (pa_cons (pv 1) pa_nil))))
  (pss_cons (ps_if (PW.pt (pw_or (pt_not (pt_val (pe_callC C__is_name (hr.mono (by first | decide | exact Nat.le_refl _ | omega)) (by rfl) (pa_cons (pv 3) pa_nil)))) (pw_or1 (pt_cmpR op_in_seq (pv 3) (pv 2) (by rfl))))) (pss_one (ps_raiseBt rfl (takes_of rfl rfl rfl rfl) T.bt (hr.mono (by first | decide | exact Nat.le_refl _ | omega) : Room (0 + 1) _) (pa_cons (pv 1) pa_nil) (by rfl))) pss_nil)
  (pss_one (ps_ret (pv 3))))), ?_⟩)
  · obtain ⟨x, t, ws, i, y, rfl, _⟩ := h
    rfl
  · obtain ⟨x, t, ws, i, taken, rfl, hw, hi, ht, q, e⟩ := h
    refine ⟨_, rfl, _, rfl, x, ws, i, rfl, hw, hi, ?_⟩
    refine ⟨_, rfl, wordAt ws i, rfl, wordAt_short hw i, fun H1 s1 => ⟨_, rfl, ?_⟩⟩
    unfold nameOk at q e
    show if (!isName (wordAt ws i)) = true then _ else _
    have fl : (taken.map V.str).all flatV = true := by
      rw [List.all_map]
      exact List.all_eq_true.mpr fun _ _ => rfl
    cases c : isName (wordAt ws i) with
    | false =>
      rw [c] at e
      refine iteT (iteT ?_)
      exact ⟨_, rfl, _, rfl, nat_log hi, ((e rfl).same s1).here⟩
    | true =>
      rw [c] at q e
      refine iteF ?_
      refine ⟨_, rfl, _, rfl, t, _, rfl, .inl (sqL_same s1 ht), rfl, fl, _, rfl, ?_⟩
      cases c2 : inV (.str (wordAt ws i)) (taken.map V.str) with
      | true =>
        rw [c2] at e
        show if true = true then _ else _
        rw [if_pos rfl]
        exact ⟨_, rfl, _, rfl, nat_log hi, ((e rfl).same s1).here⟩
      | false =>
        rw [c2] at q
        show if false = true then _ else _
        rw [if_neg Bool.false_ne_true]
        exact ⟨_, rfl, q rfl H1 s1⟩
theorem ok__number (T : HT P K mg kw C fI) (M : MB mg) (F : FnP K "_number" s__number f fd) (C__word_at : Callee P w K mg base CX0 "_word_at" ["words", "at"] 1 (spWordAt K)) (C__is_number : Callee P w K mg base CX0 "_is_number" ["word"] 1 spIsNumber) :
    FnOk P w K mg base (L2.CX P w) 2 f fd ["words", "at"] (spNumber K C) := by
  refine F.ok sc__number (fun vs H Q E h => ?_) (fun cdv A outer s H vs Q E hr h => ⟨_, (pss_cons (ps_set (i := 2) sc__number.nd rfl (.inl rfl) (pe_callC C__word_at (hr.mono (by first | decide | exact Nat.le_refl _ | omega)) (by rfl) (pa_cons (pv 0) (pa_cons (pv 1) pa_nil))))
  (pss_cons (ps_if (pt_not (pt_val (pe_callC C__is_number (hr.mono (by first | decide | exact Nat.le_refl _ | omega)) (by rfl) (pa_cons (pv 2) pa_nil)))) (pss_one (ps_raiseBt rfl (takes_of rfl rfl rfl rfl) T.bt (hr.mono (by first | decide | exact Nat.le_refl _ | omega) : Room (0 + 1) _) (pa_cons (pv 1) pa_nil) (by rfl))) pss_nil)
  (pss_one (ps_ret (pe_callTy call_int_str (by rfl) M.int (by decide +kernel) (pa_cons (pv 2) pa_nil)))))), ?_⟩)
  · obtain ⟨x, ws, i, rfl, _⟩ := h
    rfl
  · obtain ⟨x, ws, i, rfl, hw, hi, q, e⟩ := h
    refine ⟨_, rfl, _, rfl, x, ws, i, rfl, hw, hi, ?_⟩
    refine ⟨_, rfl, wordAt ws i, rfl, wordAt_short hw i, fun H1 s1 => ⟨_, rfl, ?_⟩⟩
    show if (!isNumber (wordAt ws i)) = true then _ else _
    cases c : isNumber (wordAt ws i) with
    | false =>
      refine iteT ?_
      exact ⟨_, rfl, _, rfl, nat_log hi, ((e c).same s1).here⟩
    | true =>
      refine iteF ?_
      obtain ⟨h1, h2⟩ := number_text c
      exact ⟨_, rfl, _, _, rfl, h1, h2, q c H1 s1⟩
theorem ok__one_of (T : HT P K mg kw C fI) (F : FnP K "_one_of" s__one_of f fd) (C__word_is : Callee P w K mg base CX0 "_word_is" ["words", "at", "word"] 2 (spWordIs K)) :
    FnOk P w K mg base (L2.CX P w) 3 f fd ["words", "at", "names", "indexes"] (spOneOf K C) := by
  refine F.ok sc__one_of (fun vs H Q E h => ?_) (fun cdv A outer s H vs Q E hr h => ⟨_, (pss_cons (ps_for (passes_of rfl) rfl (pi_list (pv 3)) (pg_name (i := 4) sc__one_of.nd rfl (.inl rfl)) (pss_one (ps_if (pt_val (pe_callC C__word_is (hr.mono (by first | decide | exact Nat.le_refl _ | omega)) (by rfl) (pa_cons (pv 0) (pa_cons (pv 1) (pa_cons (pe_ix ix_list (pv 2) (pv 4) (fun _ _ => rfl)) pa_nil))))) (pss_one (ps_ret (pv 4))) pss_nil)))
  (pss_one (ps_raiseBt rfl (takes_of rfl rfl rfl rfl) T.bt (hr.mono (by first | decide | exact Nat.le_refl _ | omega) : Room (0 + 1) _) (pa_cons (pv 1) pa_nil) (by rfl)))), ?_⟩)
  · obtain ⟨x, n, y, ws, i, names, idx, rfl, _⟩ := h
    rfl
  · obtain ⟨x, n, y, ws, i, names, idx, rfl, hw, hi, hn, hx, hk, hl, q, e⟩ := h
    refine ⟨_, rfl, y, rfl, ⟨_, hx⟩, for_list (K := K) (a := y) (xs := natV idx) (fun j σ H' => (∃ z, σ = [some (.ref x), some (.int (i : Nat)), some (.ref n), some (.ref y), z]) ∧ H' = H ∧ (idx.take j).find? (fun k => decide (wordAt ws i = names.getD k Str.empty)) = none)
      ⟨⟨_, rfl⟩, rfl, rfl⟩ (fun j σ H' _ z => by rw [z.2.1]; exact hx) ?_ ?_⟩
    · rintro j v σ H' hj ⟨⟨z, rfl⟩, rfl, hf⟩
      obtain ⟨k, hk1, rfl⟩ : ∃ k, idx[j]? = some k ∧ v = V.int (k : Nat) := by
        unfold natV at hj
        rw [List.getElem?_map] at hj
        cases e1 : idx[j]? with
        | none =>
          rw [e1] at hj
          cases hj
        | some k =>
          rw [e1] at hj
          exact ⟨k, rfl, (Option.some.inj hj).symm⟩
      have hkl := hk k (List.mem_of_getElem? hk1)
      have hgk : (names.map V.str)[k]? = some (V.str (names.getD k Str.empty)) := by
        rw [List.getElem?_map, List.getElem?_eq_getElem hkl, List.getD_eq_getElem?_getD, List.getElem?_eq_getElem hkl]
        rfl
      refine ⟨_, rfl, _, rfl, _, rfl, _, rfl, n, _, _, _, rfl, rfl, hn, atI_nat hgk, x, ws, i, _, rfl, hw, hi, _, rfl, ?_⟩
      by_cases c : wordAt ws i = names.getD k Str.empty
      · refine ifT (decide_eq_true c) ?_
        exact ⟨_, rfl, q k (find_at hk1 hf (decide_eq_true c))⟩
      · refine ifF (decide_eq_false c) ?_
        exact ⟨⟨_, rfl⟩, rfl, find_more hk1 hf (decide_eq_false c)⟩
    · rintro σ H' ⟨⟨z, rfl⟩, rfl, hf⟩
      have hl2 : (natV idx).length = idx.length := List.length_map _
      rw [hl2, List.take_length] at hf
      exact ⟨_, rfl, _, rfl, nat_log hi, (e hf).here⟩
end

/-! ### regions: what a def has made itself -/
mutual
theorem dp_same {K : PySem.W.Frag} {H H' : Hp} (e : Same H H') : ∀ {v : V} {d : PyData}, Dp K H v d → Dp K H' v d
  | _, _, .non => .non
  | _, _, .bl b => .bl b
  | _, _, .int i => .int i
  | _, _, .str x => .str x
  | _, _, .lst h hs => .lst (sqL_same e h) (dpa_same e hs)
  | _, _, .tup h hs => .tup (same_seqT e h) (dpa_same e hs)
theorem dpa_same {K : PySem.W.Frag} {H H' : Hp} (e : Same H H') : ∀ {vs : List V} {ds : List PyData}, DpAll K H vs ds → DpAll K H' vs ds
  | _, _, .nil => .nil
  | _, _, .cons h t => .cons (dp_same e h) (dpa_same e t)
end
theorem dpa_append {K : PySem.W.Frag} {H : Hp} : ∀ {vs : List V} {ds : List PyData} {us : List V} {es : List PyData}, DpAll K H vs ds → DpAll K H us es → DpAll K H (vs ++ us) (ds ++ es)
  | [], [], _, _, .nil, h => h
  | _ :: _, _ :: _, _, _, .cons a t, h => .cons a (dpa_append t h)
theorem same_upd_new {H0 H : Hp} {a : Addr} {o : HO} (e : Same H0 H) (h : H0 a = none) : Same H0 (upd H a o) := fun b u q => by
  rw [upd_ne (ne_of_none q h)]
  exact e b u q
/-- G: cells of H that were not in H0, none of them in ex -/
structure Reg (H0 H G : Hp) (ex : List Addr) : Prop where
  sub : Same G H
  new : ∀ b, H0 b ≠ none → G b = none
  out : ∀ a ∈ ex, G a = none
def hp0 : Hp := fun _ => none
theorem reg0 {H0 H : Hp} {ex : List Addr} : Reg H0 H hp0 ex :=
  ⟨fun b o (e : (none : Option HO) = some o) => (by cases e), fun _ _ => rfl, fun _ _ => rfl⟩
def un2 (G G' : Hp) : Hp := fun b => match G b with | some o => some o | none => G' b
theorem un2_l {G G' : Hp} : Same G (un2 G G') := fun b o e => by
  unfold un2
  rw [e]
theorem Reg.put {H0 H G : Hp} {ex : List Addr} (r : Reg H0 H G ex) {a : Addr} {o : HO} (h : a ∈ ex) : Reg H0 (L2.upd H a o) G ex :=
  ⟨fun b u e => by
    rw [upd_ne (ne_of_none e (r.out a h))]
    exact r.sub b u e, r.new, r.out⟩
theorem Reg.more {H0 H H' G : Hp} {ex : List Addr} (r : Reg H0 H G ex) (e : Same H H') : Reg H0 H' G ex := ⟨r.sub.trans e, r.new, r.out⟩
theorem Reg.add {H0 H G : Hp} {ex : List Addr} (r : Reg H0 H G ex) (s : Same H0 H) {p : Addr} {o : HO} (h : H p = none) (ho : ∀ a ∈ ex, H a ≠ none) : Reg H0 (L2.upd H p o) (L2.upd G p o) ex := by
  have hp : ∀ b, b ≠ p → ∀ o', L2.upd G p o' b = G b := fun b n o' => upd_ne n
  refine ⟨fun b u e => ?_, fun b n => ?_, fun a m => ?_⟩
  · by_cases c : b = p
    · subst c
      rw [upd_same] at e ⊢
      exact e
    · rw [upd_ne c] at e ⊢
      exact r.sub b u e
  · have c : b ≠ p := fun z => n (by
      cases e : H0 b with
      | none => rfl
      | some u =>
        have q := s b u e
        rw [z, h] at q
        cases q)
    rw [upd_ne c]
    exact r.new b n
  · have c : a ≠ p := fun z => ho a m (by rw [z]; exact h)
    rw [upd_ne c]
    exact r.out a m
/-- a kept-out cell is let in -/
theorem Reg.take {H0 H G : Hp} {ex : List Addr} (r : Reg H0 H G ex) {p : Addr} {o : HO} (h0 : H0 p = none) (h : H p = some o) {ex' : List Addr} (hx : ∀ a ∈ ex', a ∈ ex ∧ a ≠ p) : Reg H0 H (L2.upd G p o) ex' := by
  refine ⟨fun b u e => ?_, fun b n => ?_, fun a m => ?_⟩
  · by_cases c : b = p
    · subst c
      rw [upd_same] at e
      rw [h]
      exact e
    · rw [upd_ne c] at e
      exact r.sub b u e
  · have c : b ≠ p := fun z => n (by rw [z]; exact h0)
    rw [upd_ne c]
    exact r.new b n
  · rw [upd_ne (hx a m).2]
    exact r.out a (hx a m).1
/-- what a callee has made besides -/
theorem Reg.un {H0 H H' G G' : Hp} {ex ex' : List Addr} (r : Reg H0 H G ex) (s : Same H0 H) (t : Same H H') (r' : Reg H H' G' ex') (ho : ∀ a ∈ ex, H a ≠ none) : Reg H0 H' (un2 G G') ex ∧ Same G' (un2 G G') := by
  refine ⟨⟨fun b u e => ?_, fun b n => ?_, fun a m => ?_⟩, fun b u e => ?_⟩
  · unfold un2 at e
    cases g : G b with
    | some o =>
      rw [g] at e
      rw [← Option.some.inj e]
      exact t _ _ (r.sub b o g)
    | none =>
      rw [g] at e
      exact r'.sub b u e
  · unfold un2
    rw [r.new b n]
    refine r'.new b fun z => n ?_
    cases e : H0 b with
    | none => rfl
    | some u =>
      have q := s b u e
      rw [z] at q
      cases q
  · unfold un2
    rw [r.out a m]
    exact r'.new a (ho a m)
  · unfold un2
    cases g : G b with
    | some o =>
      have q := r.sub b o g
      have z := r'.new b (by rw [q]; exact fun z => by cases z)
      rw [z] at e
      cases e
    | none => exact e
/-- the value v, of the data d, made since H0 -/
def Made (K : PySem.W.Frag) (H0 H : Hp) (v : V) (d : PyData) : Prop := ∃ G, Reg H0 H G [] ∧ Dp K G v d
theorem Made.dp {K : PySem.W.Frag} {H0 H : Hp} {v : V} {d : PyData} (h : Made K H0 H v d) : Dp K H v d := by
  obtain ⟨G, r, q⟩ := h
  exact dp_same r.sub q
/-- a new tuple of what was made, appended to the list at M -/
theorem app_step {K : PySem.W.Frag} {H H3 G : Hp} {M t : Addr} {vs xs : List V} {ds es : List PyData} (rG : Reg H H3 G [M]) (dG : DpAll K G vs ds) (dx : DpAll K G xs es) (ht : H3 t = none) (eM : H3 M = some (.lst vs)) (s : Same H H3) (hM : H M = none) :
    Same H (upd (upd H3 t (.tup xs)) M (.lst (vs ++ [.ref t]))) ∧ ∃ G', Reg H (upd (upd H3 t (.tup xs)) M (.lst (vs ++ [.ref t]))) G' [M] ∧ DpAll K G' (vs ++ [.ref t]) (ds ++ [.tuple es]) := by
  have nM : ∀ a ∈ [M], H3 a ≠ none := by
    intro a ha z
    rw [List.mem_singleton.mp ha, eM] at z
    cases z
  have Gt : G t = none := by
    cases e : G t with
    | none => rfl
    | some o =>
      have z := rG.sub t o e
      rw [ht] at z
      cases z
  exact ⟨same_upd_new (s.trans (same_upd ht)) hM, _, (rG.add s (o := .tup xs) ht nM).put (List.mem_singleton.mpr rfl), dpa_append (dpa_same (same_upd Gt) dG) (.cons (.tup (.inl (.inl upd_same)) (dpa_same (same_upd Gt) dx)) .nil)⟩
/-- a callee's answer joins the region -/
theorem join_made {K : PySem.W.Frag} {H H2 H3 G : Hp} {M : Addr} {vs us : List V} {ds : List PyData} {v : V} {d : PyData} (rG : Reg H H2 G [M]) (dG : DpAll K G vs ds) (s : Same H H2) (s3 : Same H2 H3) (eM : H2 M = some (.lst us)) (hm : Made K H2 H3 v d) :
    ∃ G', Reg H H3 G' [M] ∧ DpAll K G' vs ds ∧ Dp K G' v d ∧ Same G G' := by
  obtain ⟨G1, r1, d1⟩ := hm
  obtain ⟨r2, s2⟩ := rG.un s s3 r1 (by
    intro a ha z
    rw [List.mem_singleton.mp ha, eM] at z
    cases z)
  exact ⟨_, r2, dpa_same un2_l dG, dp_same s2 d1, un2_l⟩
theorem join0 {K : PySem.W.Frag} {H H2 H3 G : Hp} {v : V} {d : PyData} (rG : Reg H H2 G []) (s : Same H H2) (s3 : Same H2 H3) (hm : Made K H2 H3 v d) : ∃ G', Reg H H3 G' [] ∧ Same G G' ∧ Dp K G' v d := by
  obtain ⟨G1, r1, d1⟩ := hm
  obtain ⟨r2, s2⟩ := rG.un s s3 r1 (by
    intro a ha z
    cases ha)
  exact ⟨_, r2, un2_l, dp_same s2 d1⟩
/-- what was made is appended to the list at M -/
theorem put_step {K : PySem.W.Frag} {H H3 G : Hp} {M : Addr} {vs : List V} {v : V} {ds : List PyData} {d : PyData} (rG : Reg H H3 G [M]) (dG : DpAll K G vs ds) (dv : Dp K G v d) (s : Same H H3) (hM : H M = none) :
    Same H (upd H3 M (.lst (vs ++ [v]))) ∧ Reg H (upd H3 M (.lst (vs ++ [v]))) G [M] ∧ DpAll K G (vs ++ [v]) (ds ++ [d]) :=
  ⟨same_upd_new s hM, rG.put (List.mem_singleton.mpr rfl), dpa_append dG (.cons dv .nil)⟩
/-- a callee's answer joins, a cell of the base being written meanwhile -/
theorem Reg.unD {H0 H H' G G' : Hp} {ex ex' : List Addr} (r : Reg H0 H G ex) (hd : ∀ b, H0 b ≠ none → H b ≠ none) (t : Same H H') (r' : Reg H H' G' ex') (ho : ∀ a ∈ ex, H a ≠ none) : Reg H0 H' (un2 G G') ex ∧ Same G' (un2 G G') := by
  refine ⟨⟨fun b u e => ?_, fun b n => ?_, fun a m => ?_⟩, fun b u e => ?_⟩
  · unfold un2 at e
    cases g : G b with
    | some o =>
      rw [g] at e
      rw [← Option.some.inj e]
      exact t _ _ (r.sub b o g)
    | none =>
      rw [g] at e
      exact r'.sub b u e
  · unfold un2
    rw [r.new b n]
    exact r'.new b (hd b n)
  · unfold un2
    rw [r.out a m]
    exact r'.new a (ho a m)
  · unfold un2
    cases g : G b with
    | some o =>
      have q := r.sub b o g
      have z := r'.new b (by rw [q]; exact fun z => by cases z)
      rw [z] at e
      cases e
    | none => exact e

/-! ### house: amounts -/
def amountsGo (ws : List Str) (key : Str) (goods : List Str) : Nat → List Nat → List (Nat × Nat) → Nat → Except Nat (List (Nat × Nat) × Nat)
  | 0, _, acc, i => .ok (acc, i)
  | n + 1, left, acc, i => if wordAt ws i = key then
      (match oneOf ws (i + 1) goods left with
        | none => .error (i + 1)
        | some g => if isNumber (wordAt ws (i + 2)) then amountsGo ws key goods n (left.eraseIdx (left.idxOf g)) (acc ++ [(g, numOf (wordAt ws (i + 2)))]) (i + 3) else .error (i + 2))
    else .ok (acc, i)
def readAmounts (ws : List Str) (i : Nat) (key : Str) (goods : List Str) : Except Nat (List (Nat × Nat) × Nat) := amountsGo ws key goods goods.length (List.range goods.length) [] i
def amtD (l : List (Nat × Nat)) : List PyData := l.map fun p => .tuple [.int (p.1 : Nat), .int (p.2 : Nat)]
/-- what a reader answers: a pair of what it read and the index behind it -/
def Reads2 (K : PySem.W.Frag) (C : Addr) (H : Hp) (Q : VK) (E : XK) (r : Except Nat (PyData × Nat)) : Prop :=
  match r with
  | .ok (d, j) => ∀ (p : Addr) (v : V) (H' : Hp), Same H H' → H' p = some (.tup [v, .int (j : Nat)]) → Made K H H' v d → Q (.ref p) H'
  | .error e => ErrAt C H E e
def spReadAmounts (K : PySem.W.Frag) (C : Addr) : Sp := fun vs H Q E => ∃ (w g : Addr) (ws : List Str) (i : Nat) (key : Str) (goods : List Str), vs = [.ref w, .int (i : Nat), .str key, .ref g] ∧ Ws K H w ws ∧ i ≤ 500000 ∧ SqL K H g (goods.map V.str) ∧ goods.length ≤ 1000 ∧
  Reads2 K C H Q E ((readAmounts ws i key goods).map fun r => (.list (amtD r.1), r.2))
theorem tyL {K : PySem.W.Frag} {H : Hp} {a : Addr} {xs : List V} (h : SqL K H a xs) : tyV K "list" (.ref a) H := .inl ⟨rfl, xs, h⟩
theorem idx_first : ∀ (l : List Nat) (k : Nat), k ∈ l → l.idxOf k < l.length ∧ l[l.idxOf k]? = some k ∧ ∀ m, m < l.idxOf k → l[m]? ≠ some k
  | [], k, h => by cases h
  | a :: l, k, h => by
    by_cases c : a = k
    · subst c
      simp [List.idxOf_cons]
    · have hk : k ∈ l := by
        rcases List.mem_cons.mp h with e | e
        · exact absurd e.symm c
        · exact e
      obtain ⟨h1, h2, h3⟩ := idx_first l k hk
      have e : (a :: l).idxOf k = l.idxOf k + 1 := by
        have cb : (a == k) = false := beq_eq_false_iff_ne.mpr c
        rw [List.idxOf_cons, cb]
        rfl
      rw [e]
      refine ⟨by rw [List.length_cons]; omega, by rw [List.getElem?_cons_succ]; exact h2, fun m hm => ?_⟩
      cases m with
      | zero => simpa using c
      | succ m =>
        rw [List.getElem?_cons_succ]
        exact h3 m (by omega)
def natI (l : List Nat) : List Int := l.map fun n => ((n : Nat) : Int)
theorem natV_I (l : List Nat) : natV l = (natI l).map V.int := by
  unfold natV natI
  rw [List.map_map]
  rfl
theorem natI_get (l : List Nat) (j k : Nat) : (natI l)[j]? = some (k : Int) ↔ l[j]? = some k := by
  unfold natI
  rw [List.getElem?_map]
  cases l[j]? with
  | none => simp
  | some a =>
    simp
    omega
theorem er_map {α β : Type} {f : α → β} : ∀ (l : List α) (j : Nat), (l.map f).eraseIdx j = (l.eraseIdx j).map f
  | [], _ => rfl
  | _ :: _, 0 => rfl
  | a :: l, j + 1 => congrArg (f a :: ·) (er_map l j)
theorem natI_erase (l : List Nat) (j : Nat) : (natI l).eraseIdx j = natI (l.eraseIdx j) := by
  unfold natI
  exact er_map l j
/-- left.remove(k): k is there -/
theorem rem_nat {l : Addr} {ns : List Nat} {k : Nat} {H : Hp} {Q : VK} (hl : H l = some (.lst (natV ns))) (hk : k ∈ ns) (q : Q .non (upd H l (.lst (natV (ns.eraseIdx (ns.idxOf k)))))) : rRemI (.ref l) [.int (k : Nat)] H Q := by
  obtain ⟨h1, h2, h3⟩ := idx_first ns k hk
  refine ⟨l, natI ns, (k : Nat), ns.idxOf k, rfl, rfl, by rw [hl, natV_I], (natI_get _ _ _).mpr h2, fun m hm z => h3 m hm ((natI_get _ _ _).mp z), ?_⟩
  rw [natI_erase, ← natV_I]
  exact q
theorem rg_nat (n : Nat) : rgV 0 (n : Int) = natV (List.range n) := by
  unfold rgV natV
  rw [show ((n : Int) - 0).toNat = n by omega]
  refine List.map_congr_left fun k _ => ?_
  rw [Int.zero_add]
section
variable {P : Program} {w : World} {K : PySem.W.Frag} {mg : Str → Option Value} {base : Heap} {f kw C fI : Addr} {fd : FuncData}
theorem ok__read_amounts (T : HT P K mg kw C fI) (M : MB mg) (F : FnP K "_read_amounts" s__read_amounts f fd) (C__word_is : Callee P w K mg base CX0 "_word_is" ["words", "at", "word"] 2 (spWordIs K))
    (C__one_of : Callee P w K mg base (L2.CX P w) "_one_of" ["words", "at", "names", "indexes"] 3 (spOneOf K C)) (C__number : Callee P w K mg base (L2.CX P w) "_number" ["words", "at"] 2 (spNumber K C)) :
    FnOk P w K mg base (L2.CX P w) 4 f fd ["words", "at", "key", "goods"] (spReadAmounts K C) := by
  refine F.ok sc__read_amounts (fun vs H Q E h => ?_) (fun cdv A outer s H vs Q E hr h => ⟨_, (pss_cons (ps_set (i := 4) sc__read_amounts.nd rfl (.inl rfl) (pe_listRg rfl (by rfl) M.list (prg_1 (by rfl) M.range (pe_callB call_len_seq (by rfl) M.len (by decide +kernel) (pa_cons (pv 3) pa_nil)))))
  (pss_cons (ps_set (i := 5) sc__read_amounts.nd rfl (.inl rfl) (pe_lst pa_nil))
  (pss_cons (ps_while (passes_of rfl) (PW.pt (pw_and (pt_truth (pv 4) (by intro _; rfl)) (pw_and1 (pt_val (pe_callC C__word_is (hr.mono (by first | decide | exact Nat.le_refl _ | omega)) (by rfl) (pa_cons (pv 0) (pa_cons (pv 1) (pa_cons (pv 2) pa_nil)))))))) (pss_cons (ps_set (i := 6) sc__read_amounts.nd rfl (.inl rfl) (pe_callX C__one_of (hr.mono (by first | decide | exact Nat.le_refl _ | omega)) (by rfl) (L2.passes_call (takes_of rfl rfl rfl rfl) (fun _ _ _ _ h => h)) (pa_cons (pv 0) (pa_cons (pe_op op_add (pv 1) pe_int) (pa_cons (pv 3) (pa_cons (pv 4) pa_nil))))))
  (pss_cons (ps_expr (pe_bm PySem.F.plainAttrs_list PySem.F.slot_list_append PySem.F.type_list_append mt_append (pv 5) (pa_cons (pe_tup (pa_cons (pv 6) (pa_cons (pe_callX C__number (hr.mono (by first | decide | exact Nat.le_refl _ | omega)) (by rfl) (L2.passes_call (takes_of rfl rfl rfl rfl) (fun _ _ _ _ h => h)) (pa_cons (pv 0) (pa_cons (pe_op op_add (pv 1) pe_int) pa_nil))) pa_nil))) pa_nil)))
  (pss_cons (ps_expr (pe_bm PySem.F.plainAttrs_list PySem.F.slot_list_remove PySem.F.type_list_remove mt_remove (pv 4) (pa_cons (pv 6) pa_nil)))
  (pss_one (ps_aug (i := 1) sc__read_amounts.nd rfl (.inl rfl) pe_int ip_add))))))
  (pss_one (ps_ret (pe_tup (pa_cons (pv 5) (pa_cons (pv 1) pa_nil)))))))), ?_⟩)
  · obtain ⟨x, g, ws, i, key, goods, rfl, _⟩ := h
    rfl
  · obtain ⟨x, g, ws, i, key, goods, rfl, hw, hi, hg, hl, q⟩ := h
    have hs := sizeLine_eq
    have q0 : ∀ r, readAmounts ws i key goods = r → Reads2 K C H Q E (r.map fun r => (.list (amtD r.1), r.2)) := fun r e => by
      rw [← e]
      exact q
    refine ⟨_, rfl, _, _, rfl, .inl hg, _, rfl, ⟨by omega, by omega, by omega, by rw [List.length_map]; omega, by rw [List.length_map]; omega⟩, fun L hL => ?_⟩
    refine ⟨by decide, fun M hM => ?_⟩
    have hLM : M ≠ L := fun z => by
      rw [z, upd_same] at hM
      cases hM
    have hM0 : H M = none := by
      rw [upd_ne hLM] at hM
      exact hM
    refine ⟨fun m σ H' => ∃ (left : List Nat) (acc : List (Nat × Nat)) (j : Nat) (vs : List V) (G : Hp) (z : Option V), left.length = m ∧ σ = [some (.ref x), some (.int (j : Nat)), some (.str key), some (.ref g), some (.ref L), some (.ref M), z] ∧ Same H H' ∧
      H' L = some (.lst (natV left)) ∧ H' M = some (.lst vs) ∧ Reg H H' G [L, M] ∧ DpAll K G vs (amtD acc) ∧ (∀ k ∈ left, k < goods.length) ∧ acc.length + m ≤ 1000 ∧ j + 3 * m ≤ i + 3 * goods.length ∧ amountsGo ws key goods m left acc j = readAmounts ws i key goods,
      ⟨goods.length, List.range goods.length, [], i, [], hp0, none, List.length_range, rfl, (same_upd hL).trans (same_upd hM), ?_, upd_same, reg0, .nil, fun k hk => List.mem_range.mp hk, by show 0 + _ ≤ _; omega, Nat.le_refl _, rfl⟩, ?_⟩
    · rw [upd_ne hLM.symm, upd_same, List.length_map]
      exact congrArg (fun z => some (HO.lst z)) (rg_nat _)
    rintro m σ H' ⟨left, acc, j, vs, G, z, hm, rfl, sm, eL, eM, rG, dG, bk, bl, bj, go⟩
    have fin : readAmounts ws i key goods = .ok (acc, j) → tRet (tTup (tCons (tVar 5) (tCons (tVar 1) tNil))) { nx := fun x H' => Q V.non H', rt := Q } [some (.ref x), some (.int (j : Nat)), some (.str key), some (.ref g), some (.ref L), some (.ref M), z] H' := by
      intro e
      refine ⟨_, rfl, _, rfl, (by show 2 ≤ sizeLine; omega), fun p hp => ?_⟩
      refine q0 _ e p (.ref M) _ (sm.trans (same_upd hp)) upd_same ⟨upd G M (.lst vs), (rG.take hM0 eM (fun _ h => by cases h)).more (same_upd hp), .lst (.inl (.inl upd_same)) (dpa_same (same_upd (rG.out M (by simp))) dG)⟩
    refine ⟨_, rfl, _, .inl ⟨_, .inl (.inl eL), rfl⟩, ?_⟩
    cases left with
    | nil =>
      subst hm
      refine ifF rfl ?_
      refine ifF rfl ?_
      exact fin go.symm
    | cons k0 left0 =>
      subst hm
      refine ifT rfl ?_
      refine ⟨_, rfl, _, rfl, _, rfl, x, ws, j, key, rfl, ws_same sm hw, by omega, _, rfl, ?_⟩
      have hml : (k0 :: left0).length = left0.length + 1 := rfl
      rw [hml] at bl bj go
      rw [amountsGo] at go
      by_cases c : wordAt ws j = key
      · refine ifT (decide_eq_true c) ?_
        rw [if_pos c] at go
        refine ⟨fun σ' H2 => ∃ m', m' < (k0 :: left0).length ∧ ∃ (left : List Nat) (acc : List (Nat × Nat)) (j : Nat) (vs : List V) (G : Hp) (z : Option V), left.length = m' ∧ σ' = [some (.ref x), some (.int (j : Nat)), some (.str key), some (.ref g), some (.ref L), some (.ref M), z] ∧ Same H H2 ∧
          H2 L = some (.lst (natV left)) ∧ H2 M = some (.lst vs) ∧ Reg H H2 G [L, M] ∧ DpAll K G vs (amtD acc) ∧ (∀ k ∈ left, k < goods.length) ∧ acc.length + m' ≤ 1000 ∧ j + 3 * m' ≤ i + 3 * goods.length ∧ amountsGo ws key goods m' left acc j = readAmounts ws i key goods, fun _ _ h => h, ?_⟩
        have hg' : SqL K H' g (goods.map V.str) := sqL_same sm hg
        refine ⟨_, rfl, _, rfl, _, _, rfl, rfl, _, rfl, _, rfl, x, g, L, ws, j + 1, goods, k0 :: left0, rfl, ws_same sm hw, by omega, hg', .inl (.inl eL), bk, hl, fun k hk => ?_, fun hk => ?_⟩
        · rw [hk] at go
          refine ⟨_, rfl, tyL (.inl (.inl eM)), _, rfl, _, rfl, _, rfl, _, _, rfl, rfl, x, ws, j + 2, rfl, ws_same sm hw, by omega, fun hn H2 s2 => ?_, fun hn => ?_⟩
          · rw [hn] at go
            dsimp only at go
            rw [if_pos rfl] at go
            have hkm : k ∈ k0 :: left0 := List.mem_of_find?_eq_some hk
            have eL2 := s2 _ _ eL
            have eM2 := s2 _ _ eM
            have hvl : vs.length ≤ 1000 := by
              have z := dpa_len dG
              unfold amtD at z
              rw [List.length_map] at z
              omega
            refine ⟨(by show 2 ≤ sizeLine; omega), fun t ht => ?_⟩
            have tL : L ≠ t := ne_of_none eL2 ht
            have tM : M ≠ t := ne_of_none eM2 ht
            refine ⟨M, vs, _, rfl, rfl, by rw [upd_ne tM]; exact eM2, by omega, ?_⟩
            have eL4 : upd (upd H2 t (.tup [.int (k : Nat), .int (numOf (wordAt ws (j + 2)) : Nat)])) M (.lst (vs ++ [.ref t])) L = some (.lst (natV (k0 :: left0))) := by
              rw [upd_ne hLM.symm, upd_ne tL]
              exact eL2
            refine ⟨_, rfl, tyL (.inl (.inl eL4)), _, rfl, ?_⟩
            dsimp only [tNil]
            refine rem_nat eL4 hkm ?_
            have nL : H2 L ≠ none := by rw [eL2]; exact fun z => by cases z
            have nM : H2 M ≠ none := by rw [eM2]; exact fun z => by cases z
            have Gt : G t = none := by
              cases e : G t with
              | none => rfl
              | some o =>
                have z := s2 _ _ (rG.sub t o e)
                rw [ht] at z
                cases z
            have rr := (((rG.more s2).add (sm.trans s2) (o := .tup [.int (k : Nat), .int (numOf (wordAt ws (j + 2)) : Nat)]) ht (by
              intro a ha
              rcases List.mem_cons.mp ha with rfl | ha
              · exact nL
              · rcases List.mem_cons.mp ha with rfl | ha
                · exact nM
                · cases ha)).put (a := M) (o := .lst (vs ++ [.ref t])) (by simp)).put (a := L) (o := .lst (natV ((k0 :: left0).eraseIdx ((k0 :: left0).idxOf k)))) (by simp)
            refine ⟨_, rfl, _, _, rfl, rfl, left0.length, Nat.lt_succ_self _, (k0 :: left0).eraseIdx ((k0 :: left0).idxOf k), acc ++ [(k, numOf (wordAt ws (j + 2)))], j + 3, vs ++ [.ref t], _, some (.int (k : Nat)), ?_, rfl, ?_, upd_same, ?_, rr, ?_, fun a ha => bk a (List.mem_of_mem_eraseIdx ha), ?_, by omega, go⟩
            · rw [List.length_eraseIdx_of_lt (idx_first _ _ hkm).1]
              rfl
            · exact same_upd_new (same_upd_new ((sm.trans s2).trans (same_upd ht)) hM0) hL
            · rw [upd_ne hLM, upd_same]
            · have z : amtD (acc ++ [(k, numOf (wordAt ws (j + 2)))]) = amtD acc ++ [.tuple [.int (k : Nat), .int (numOf (wordAt ws (j + 2)) : Nat)]] := by
                unfold amtD
                rw [List.map_append]
                rfl
              rw [z]
              exact dpa_append (dpa_same (same_upd Gt) dG) (.cons (.tup (.inl (.inl upd_same)) (.cons (.int _) (.cons (.int _) .nil))) .nil)
            · rw [List.length_append]
              show _ + 1 + _ ≤ _
              omega
          · rw [hn] at go
            have z : ErrAt C H E (j + 2) := q0 _ go.symm
            exact z.same sm
        · rw [hk] at go
          have z : ErrAt C H E (j + 1) := q0 _ go.symm
          exact z.same sm
      · refine ifF (decide_eq_false c) ?_
        rw [if_neg c] at go
        exact fin go.symm
end

/-! ### house: names of parts; goods; needs -/
def iEither (K : PySem.W.Frag) (tl : TE) : TI := fun σ H R => tl σ H fun x H1 => ∃ a, x = .ref a ∧ (((∃ xs, SqL K H1 a xs) ∧ R (Itl K a) H1) ∨ ((∃ xs, SqT K H1 a xs) ∧ R (Itt K a) H1))
theorem pi_either {X : Cx} {tg l : Expr} {tl : TE} (hl : PE X l tl) : PI X tg l (iEither X.K tl) := by
  refine ⟨fun pins s σ H R I h => ?_⟩
  refine thn (hl.run pins s σ H _ I h) fun v s1 ⟨x, H1, I1, r1, a, e, q⟩ => ?_
  subst e
  cases r1
  rcases q with ⟨⟨xs, hq⟩, q⟩ | ⟨⟨xs, hq⟩, q⟩
  · obtain ⟨its, rv, p, hz⟩ := I1.list hq
    refine wpAny_pyIter_list p.isList ⟨s1.heap.objs.size, [s1.heap.objs.size], _, _, H1, rfl, I1.kept (t' := s1.toks) fun b o e => Heap.get?_push_of_some _ e, turn_list a _, ⟨_, Heap.get?_push_size _ rfl, rfl, rfl⟩, fun b hb => ?_, q⟩
    have e : b = s1.heap.objs.size := by simpa using hb
    subst e
    exact I1.fpOk (Nat.le_refl _) (I1.hok.fresh (Nat.le_refl _))
  · obtain ⟨its, rv, p, hz⟩ := I1.tuple hq
    refine wpAny_pyIter_tuple (show s1.heap.IsTuple a its.toArray from p) ⟨s1.heap.objs.size, [s1.heap.objs.size], _, _, H1, rfl, I1.kept (t' := s1.toks) fun b o e => Heap.get?_push_of_some _ e, turn_tuple a _, ⟨_, Heap.get?_push_size _ rfl, rfl, rfl⟩, fun b hb => ?_, q⟩
    have e : b = s1.heap.objs.size := by simpa using hb
    subst e
    exact I1.fpOk (Nat.le_refl _) (I1.hok.fresh (Nat.le_refl _))
/-- the name that a part begins with -/
def nameD : PyData → Option Str
  | .tuple (.str n :: _) => some n
  | _ => none
theorem nameD_of {K : PySem.W.Frag} {H : Hp} {v : V} {d : PyData} {n : Str} (h : Dp K H v d) (e : nameD d = some n) : ∃ a xs, v = .ref a ∧ SqT K H a (V.str n :: xs) := by
  cases h with
  | @tup a xs ds q hs =>
    cases hs with
    | nil => cases e
    | @cons v vs d ds hd ht =>
      cases hd with
      | str x =>
        obtain rfl : x = n := Option.some.inj e
        exact ⟨a, vs, rfl, q⟩
      | _ => cases e
  | _ => cases e
def spNamesOf (K : PySem.W.Frag) : Sp := fun vs H Q _ => ∃ (a : Addr) (xs : List V) (ds : List PyData) (names : List Str), vs = [.ref a] ∧ (SqL K H a xs ∨ SqT K H a xs) ∧ DpAll K H xs ds ∧ ds.map nameD = names.map some ∧ names.length ≤ 100000 ∧
  ∀ (D : Addr) (H' : Hp), H D = none → H' = upd H D (.lst (names.map V.str)) → Q (.ref D) H'
section
variable {P : Program} {w : World} {K : PySem.W.Frag} {mg : Str → Option Value} {base : Heap} {f kw C fI : Addr} {fd : FuncData}
theorem ok__names_of (F : FnP K "_names_of" s__names_of f fd) : FnOk P w K mg base CX0 1 f fd ["parts"] (spNamesOf K) := by
  refine F.ok sc__names_of (fun vs H Q E h => ?_) (fun cdv A outer s H vs Q E hr h => ⟨_, PSs.nox (pss_one (ps_ret (pe_lc (own := [("part", 1)]) (g := gName 1) (by rfl) sc__names_of.nd (pi_either (pv 0)) (blkOk_by (own := [("part", 1)]) (N := N__names_of) (sc := defScope s__names_of) (by decide +kernel)) (fun _ _ _ _ _ => pg_name (i := 1) sc__names_of.nd rfl (.inl rfl)) (fun _ _ _ _ _ => pts_nil) (fun _ _ _ _ _ => (pe_ix (show IxR _ (rIxT K) from ix_tup) (pv 1) pe_int (fun _ _ => rfl)))))), ?_⟩)
  · obtain ⟨a, xs, ds, names, rfl, _⟩ := h
    rfl
  · obtain ⟨a, xs, ds, names, rfl, hs, hd, hn, hl, q⟩ := h
    have lx := dpa_len hd
    have ln : ds.length = names.length := by
      have z := congrArg List.length hn
      rw [List.length_map, List.length_map] at z
      exact z
    have hsz := sizeLine_eq
    have step : ∀ (i : Nat) (x : V), xs[i]? = some x → ∃ (b : Addr) (ys : List V) (n : Str), x = .ref b ∧ SqT K H b (V.str n :: ys) ∧ names[i]? = some n := by
      intro i x hx
      have hi : i < ds.length := by
        have := (List.getElem?_eq_some_iff.mp hx).1
        omega
      obtain ⟨v, d, h1, h2, h3, h4⟩ := dpa_get hd hi
      obtain rfl : v = x := Option.some.inj (h1.symm.trans hx)
      have hn2 : (ds.map nameD)[i]? = (names.map some)[i]? := by rw [hn]
      rw [List.getElem?_map, List.getElem?_map, h2] at hn2
      cases e : names[i]? with
      | none =>
        rw [e] at hn2
        cases hn2
      | some n =>
        rw [e] at hn2
        obtain ⟨b, ys, e1, e2⟩ := nameD_of h4 (Option.some.inj hn2)
        exact ⟨b, ys, n, e1, e2, rfl⟩
    refine ⟨_, rfl, a, rfl, ?_⟩
    rcases hs with hs | hs
    · refine .inl ⟨⟨_, hs⟩, fun D hD => lc_list (K := K) (a := a) (xs := xs) (fun i H' => H' = upd H D (.lst ((names.take i).map V.str))) rfl (fun i H' _ e => ?_) (fun i x H' hx e => ?_) (fun H' e => ?_)⟩
      · rw [e]
        exact sqL_same (same_upd hD) hs
      · subst e
        obtain ⟨b, ys, n, rfl, h2, h3⟩ := step i x hx
        refine ⟨rfl, ?_⟩
        unfold tYes
        dsimp only
        rw [if_pos rfl]
        refine ⟨_, rfl, b, V.str n :: ys, 0, V.str n, rfl, rfl, same_seqT (same_upd hD) h2, atI_nat (j := 0) rfl, _, upd_same, ?_, ?_⟩
        · rw [List.length_map, List.length_take]
          omega
        · rw [upd_upd]
          obtain ⟨hi, he⟩ := List.getElem?_eq_some_iff.mp h3
          rw [List.take_succ_eq_append_getElem hi, he, List.map_append]
          rfl
      · rw [lx, ln, List.take_length] at e
        exact q D H' hD e
    · refine .inr ⟨⟨_, hs⟩, fun D hD => lc_tup (K := K) (a := a) (xs := xs) (fun i H' => H' = upd H D (.lst ((names.take i).map V.str))) rfl (fun i H' _ e => ?_) (fun i x H' hx e => ?_) (fun H' e => ?_)⟩
      · rw [e]
        exact same_seqT (same_upd hD) hs
      · subst e
        obtain ⟨b, ys, n, rfl, h2, h3⟩ := step i x hx
        refine ⟨rfl, ?_⟩
        unfold tYes
        dsimp only
        rw [if_pos rfl]
        refine ⟨_, rfl, b, V.str n :: ys, 0, V.str n, rfl, rfl, same_seqT (same_upd hD) h2, atI_nat (j := 0) rfl, _, upd_same, ?_, ?_⟩
        · rw [List.length_map, List.length_take]
          omega
        · rw [upd_upd]
          obtain ⟨hi, he⟩ := List.getElem?_eq_some_iff.mp h3
          rw [List.take_succ_eq_append_getElem hi, he, List.map_append]
          rfl
      · rw [lx, ln, List.take_length] at e
        exact q D H' hD e
end
/-! tests whose answers are known -/
theorem tOr_of {t u : TT} {σ : L2.St} {H : Hp} {Q : Bool → Hp → Prop} (b c : Bool) (h1 : ∀ Q' : Bool → Hp → Prop, Q' b H → t σ H Q') (h2 : b = false → ∀ Q' : Bool → Hp → Prop, Q' c H → u σ H Q') (q : Q (b || c) H) : tOr t u σ H Q := by
  refine h1 _ ?_
  cases b with
  | true => exact ifT rfl q
  | false => exact ifF rfl (h2 rfl _ q)
theorem tAnd_of {t u : TT} {σ : L2.St} {H : Hp} {Q : Bool → Hp → Prop} (b c : Bool) (h1 : ∀ Q' : Bool → Hp → Prop, Q' b H → t σ H Q') (h2 : b = true → ∀ Q' : Bool → Hp → Prop, Q' c H → u σ H Q') (q : Q (b && c) H) : tAnd t u σ H Q := by
  refine h1 _ ?_
  cases b with
  | true => exact ifT rfl (h2 rfl _ q)
  | false => exact ifF rfl q
theorem tNot_of {t : TT} {σ : L2.St} {H : Hp} {Q : Bool → Hp → Prop} (b : Bool) (h1 : ∀ Q' : Bool → Hp → Prop, Q' b H → t σ H Q') (q : Q (!b) H) : tNot t σ H Q := h1 _ q
/-! goods -/
def goodsGo (ws : List Str) : Nat → List Str → Nat → Except Nat (List Str × Nat)
  | 0, acc, i => .ok (acc, i)
  | n + 1, acc, i => if acc = [] ∨ wordAt ws i = "good" then
      (if wordAt ws i = "good" then (if nameOk ws (i + 1) acc = true then goodsGo ws n (acc ++ [wordAt ws (i + 1)]) (i + 2) else .error (i + 1)) else .error i)
    else .ok (acc, i)
def readGoods (ws : List Str) : Except Nat (List Str × Nat) := goodsGo ws 4 [] 0
def strD (l : List Str) : List PyData := l.map PyData.str
theorem strD_dpa {K : PySem.W.Frag} {H : Hp} : ∀ (l : List Str), DpAll K H (l.map V.str) (strD l)
  | [] => .nil
  | x :: l => .cons (.str x) (strD_dpa l)
theorem strD_eq {K : PySem.W.Frag} {H : Hp} : ∀ {l : List Str} {vs : List V}, DpAll K H vs (strD l) → vs = l.map V.str
  | [], _, .nil => rfl
  | x :: l, _, .cons h t => by
    cases h
    rw [strD_eq (l := l) t]
    rfl
def spReadGoods (K : PySem.W.Frag) (C : Addr) : Sp := fun vs H Q E => ∃ (w : Addr) (ws : List Str), vs = [.ref w] ∧ Ws K H w ws ∧ Reads2 K C H Q E ((readGoods ws).map fun r => (.list (strD r.1), r.2))
theorem lt_len {l : List Str} {n : Nat} : decide (((l.map V.str).length : Int) < (n : Nat)) = decide (l.length < n) := by
  rw [List.length_map, Bool.eq_iff_iff, decide_eq_true_iff, decide_eq_true_iff]
  omega
theorem dec_pos {p : Prop} [Decidable p] (h : p) : decide p = true := decide_eq_true h
section
variable {P : Program} {w : World} {K : PySem.W.Frag} {mg : Str → Option Value} {base : Heap} {f kw C fI : Addr} {fd : FuncData}
theorem ok__read_goods (T : HT P K mg kw C fI) (M : MB mg) (F : FnP K "_read_goods" s__read_goods f fd) (C__word_is : Callee P w K mg base CX0 "_word_is" ["words", "at", "word"] 2 (spWordIs K))
    (C__expect : Callee P w K mg base (L2.CX P w) "_expect" ["words", "at", "word"] 3 (spExpect K C)) (C__new_name : Callee P w K mg base (L2.CX P w) "_new_name" ["words", "at", "taken"] 2 (spNewName K C)) :
    FnOk P w K mg base (L2.CX P w) 4 f fd ["words"] (spReadGoods K C) := by
  obtain ⟨t8, g_MOST_GOODS⟩ := T.i3
  have r_MOST_GOODS : RelV (.int 4) (.int 4 t8) := ⟨_, rfl⟩
  refine F.ok sc__read_goods (fun vs H Q E h => ?_) (fun cdv A outer s H vs Q E hr h => ⟨_, (pss_cons (ps_set (i := 1) sc__read_goods.nd rfl (.inl rfl) (pe_lst pa_nil))
  (pss_cons (ps_set (i := 2) sc__read_goods.nd rfl (.inl rfl) pe_int)
  (pss_cons (ps_while (passes_of rfl) (PW.pt (pw_or (pt_not (pt_truth (pv 1) (by intro _; rfl))) (pw_or1 (PW.pt (pw_and (pt_cmpR op_lt (pe_callB call_len_seq (by rfl) M.len (by decide +kernel) (pa_cons (pv 1) pa_nil)) (pe_glob (by rfl) g_MOST_GOODS r_MOST_GOODS) (nomark _)) (pw_and1 (pt_val (pe_callC C__word_is (hr.mono (by first | decide | exact Nat.le_refl _ | omega)) (by rfl) (pa_cons (pv 0) (pa_cons (pv 2) (pa_cons pe_str pa_nil))))))))))) (pss_cons (ps_expr (pe_callX C__expect (hr.mono (by first | decide | exact Nat.le_refl _ | omega)) (by rfl) (L2.passes_call (takes_of rfl rfl rfl rfl) (fun _ _ _ _ h => h)) (pa_cons (pv 0) (pa_cons (pv 2) (pa_cons pe_str pa_nil)))))
  (pss_cons (ps_expr (pe_bm PySem.F.plainAttrs_list PySem.F.slot_list_append PySem.F.type_list_append mt_append (pv 1) (pa_cons (pe_callX C__new_name (hr.mono (by first | decide | exact Nat.le_refl _ | omega)) (by rfl) (L2.passes_call (takes_of rfl rfl rfl rfl) (fun _ _ _ _ h => h)) (pa_cons (pv 0) (pa_cons (pe_op op_add (pv 2) pe_int) (pa_cons (pv 1) pa_nil)))) pa_nil)))
  (pss_one (ps_aug (i := 2) sc__read_goods.nd rfl (.inl rfl) pe_int ip_add)))))
  (pss_one (ps_ret (pe_tup (pa_cons (pv 1) (pa_cons (pv 2) pa_nil)))))))), ?_⟩)
  · obtain ⟨x, ws, rfl, _⟩ := h
    rfl
  · obtain ⟨x, ws, rfl, hw, q⟩ := h
    have hs := sizeLine_eq
    have q0 : ∀ r, readGoods ws = r → Reads2 K C H Q E (r.map fun r => (.list (strD r.1), r.2)) := fun r e => by
      rw [← e]
      exact q
    refine ⟨(by show 0 ≤ sizeLine; omega), fun M hM => ?_⟩
    refine ⟨fun m σ H' => ∃ (acc : List Str) (j : Nat), acc.length + m = 4 ∧ σ = [some (.ref x), some (.ref M), some (.int (j : Nat))] ∧ Same H H' ∧ H' M = some (.lst (acc.map V.str)) ∧ j + 2 * m ≤ 8 ∧ goodsGo ws m acc j = readGoods ws,
      ⟨4, [], 0, rfl, rfl, same_upd hM, upd_same, by omega, rfl⟩, ?_⟩
    rintro m σ H' ⟨acc, j, hm, rfl, sm, eM, bj, go⟩
    have fin : readGoods ws = .ok (acc, j) → tRet (tTup (tCons (tVar 1) (tCons (tVar 2) tNil))) { nx := fun x H' => Q V.non H', rt := Q } [some (.ref x), some (.ref M), some (.int (j : Nat))] H' := by
      intro e
      refine ⟨_, rfl, _, rfl, (by show 2 ≤ sizeLine; omega), fun p hp => ?_⟩
      exact q0 _ e p (.ref M) _ (sm.trans (same_upd hp)) upd_same ⟨upd hp0 M (.lst (acc.map V.str)), ((reg0 (H0 := H) (H := H') (ex := [M])).take hM eM (fun _ h => by cases h)).more (same_upd hp), .lst (.inl (.inl upd_same)) (strD_dpa acc)⟩
    refine tOr_of acc.isEmpty (decide (acc.length < 4) && decide (wordAt ws j = "good")) (fun Q' q' => tNot_of (!acc.isEmpty) (fun Q' q' => ⟨_, rfl, _, .inl ⟨_, .inl (.inl eM), rfl⟩, ?_⟩) ?_) (fun hb Q' q' => tAnd_of _ _ (fun Q' q' => ⟨_, rfl, _, _, rfl, .inl (.inl (.inl eM)), ?_⟩) (fun hb Q' q' => ⟨_, rfl, _, rfl, x, ws, j, _, rfl, ws_same sm hw, by omega, _, rfl, q'⟩) q') ?_
    · rw [List.isEmpty_map]
      exact q'
    · rw [Bool.not_not]
      exact q'
    · refine ⟨_, _, rfl, rfl, _, rfl, ?_⟩
      exact (lt_len (l := acc) (n := 4)).symm ▸ q'
    cases m with
    | zero =>
      have e4 : acc.length = 4 := hm
      refine ifF ?_ (fin go.symm)
      cases acc with
      | nil => cases e4
      | cons a l =>
        rw [decide_eq_false (show ¬ (a :: l).length < 4 by omega)]
        rfl
    | succ n =>
      rw [goodsGo] at go
      by_cases c : acc = [] ∨ wordAt ws j = "good"
      · rw [if_pos c] at go
        refine ifT (by
          rcases c with c | c
          · rw [c]
            rfl
          · rw [decide_eq_true (show acc.length < 4 by omega), decide_eq_true c, Bool.and_true, Bool.or_true]) ?_
        refine ⟨fun σ' H2 => ∃ m', m' < n + 1 ∧ ∃ (acc : List Str) (j : Nat), acc.length + m' = 4 ∧ σ' = [some (.ref x), some (.ref M), some (.int (j : Nat))] ∧ Same H H2 ∧ H2 M = some (.lst (acc.map V.str)) ∧ j + 2 * m' ≤ 8 ∧ goodsGo ws m' acc j = readGoods ws, fun _ _ h => h, ?_⟩
        refine ⟨_, rfl, _, rfl, x, ws, j, _, rfl, ws_same sm hw, by omega, fun e => ?_, fun e => ?_⟩
        · rw [if_pos e] at go
          refine ⟨_, rfl, tyL (.inl (.inl eM)), _, rfl, _, rfl, _, _, rfl, rfl, _, rfl, x, M, ws, j + 1, acc, rfl, ws_same sm hw, by omega, .inl (.inl eM), fun hn H2 s2 => ?_, fun hn => ?_⟩
          · rw [if_pos hn] at go
            dsimp only [tNil]
            refine ⟨M, acc.map V.str, _, rfl, rfl, s2 _ _ eM, (by rw [List.length_map]; omega), ?_⟩
            refine ⟨_, rfl, _, _, rfl, rfl, n, Nat.lt_succ_self _, acc ++ [wordAt ws (j + 1)], j + 2, by rw [List.length_append]; show _ + 1 + _ = 4; omega, rfl, same_upd_new (sm.trans s2) hM, by rw [upd_same, List.map_append]; rfl, by omega, go⟩
          · rw [if_neg (by rw [hn]; decide)] at go
            have z : ErrAt C H E (j + 1) := q0 _ go.symm
            exact z.same sm
        · rw [if_neg e] at go
          have z : ErrAt C H E j := q0 _ go.symm
          exact z.same sm
      · rw [if_neg c] at go
        refine ifF ?_ (fin go.symm)
        have c1 : acc.isEmpty = false := by
          cases acc with
          | nil => exact absurd (.inl rfl) c
          | cons a l => rfl
        rw [c1, decide_eq_false (fun e => c (.inr e)), Bool.and_false]
        rfl
end

/-! ### house: members -/
abbrev Memb := Str × List (Nat × Nat)
def membGo (ws : List Str) (goods : List Str) : Nat → List Memb → Nat → Except Nat (List Memb × Nat)
  | 0, acc, i => .ok (acc, i)
  | n + 1, acc, i => if acc = [] ∨ wordAt ws i = "member" then
      (if wordAt ws i = "member" then (if nameOk ws (i + 1) (acc.map (·.1)) = true then
          (match readAmounts ws (i + 2) "has" goods with
            | .ok r => membGo ws goods n (acc ++ [(wordAt ws (i + 1), r.1)]) r.2
            | .error e => .error e)
        else .error (i + 1)) else .error i)
    else .ok (acc, i)
def readMembers (ws : List Str) (i : Nat) (goods : List Str) : Except Nat (List Memb × Nat) := membGo ws goods 5 [] i
def membD (l : List Memb) : List PyData := l.map fun m => .tuple [.str m.1, .list (amtD m.2)]
theorem amounts_far {ws : List Str} {key : Str} {goods : List Str} : ∀ {n : Nat} {left : List Nat} {acc : List (Nat × Nat)} {i : Nat} {r : List (Nat × Nat) × Nat}, amountsGo ws key goods n left acc i = .ok r → r.2 ≤ i + 3 * n
  | 0, _, _, i, r, h => by
    rw [amountsGo] at h
    cases h
    exact Nat.le_refl _
  | n + 1, left, acc, i, r, h => by
    rw [amountsGo] at h
    split at h
    · split at h
      · cases h
      · split at h
        · have := amounts_far h
          omega
        · cases h
    · cases h
      show i ≤ _
      omega
def spReadMembers (K : PySem.W.Frag) (C : Addr) : Sp := fun vs H Q E => ∃ (w g : Addr) (ws : List Str) (i : Nat) (goods : List Str), vs = [.ref w, .int (i : Nat), .ref g] ∧ Ws K H w ws ∧ i ≤ 100000 ∧ SqL K H g (goods.map V.str) ∧ goods.length ≤ 1000 ∧
  Reads2 K C H Q E ((readMembers ws i goods).map fun r => (.list (membD r.1), r.2))
theorem isEmpty_len {α β : Type} : ∀ {vs : List α} {l : List β}, vs.length = l.length → vs.isEmpty = l.isEmpty
  | [], [], _ => rfl
  | _ :: _, _ :: _, _ => rfl
theorem lt_lenV {α β : Type} {vs : List α} {l : List β} {n : Nat} (h : vs.length = l.length) : decide ((vs.length : Int) < (n : Nat)) = decide (l.length < n) := by
  rw [h, Bool.eq_iff_iff, decide_eq_true_iff, decide_eq_true_iff]
  omega
theorem memb_names (l : List Memb) : (membD l).map nameD = (l.map (·.1)).map some := by
  unfold membD
  rw [List.map_map, List.map_map]
  rfl
section
variable {P : Program} {w : World} {K : PySem.W.Frag} {mg : Str → Option Value} {base : Heap} {f kw C fI : Addr} {fd : FuncData}
theorem ok__read_members (T : HT P K mg kw C fI) (M : MB mg) (F : FnP K "_read_members" s__read_members f fd) (C__word_is : Callee P w K mg base CX0 "_word_is" ["words", "at", "word"] 2 (spWordIs K))
    (C__expect : Callee P w K mg base (L2.CX P w) "_expect" ["words", "at", "word"] 3 (spExpect K C)) (C__new_name : Callee P w K mg base (L2.CX P w) "_new_name" ["words", "at", "taken"] 2 (spNewName K C))
    (C__names_of : Callee P w K mg base CX0 "_names_of" ["parts"] 1 (spNamesOf K)) (C__read_amounts : Callee P w K mg base (L2.CX P w) "_read_amounts" ["words", "at", "key", "goods"] 4 (spReadAmounts K C)) :
    FnOk P w K mg base (L2.CX P w) 5 f fd ["words", "at", "goods"] (spReadMembers K C) := by
  obtain ⟨t8, g_MOST_MEMBERS⟩ := T.i4
  have r_MOST_MEMBERS : RelV (.int 5) (.int 5 t8) := ⟨_, rfl⟩
  refine F.ok sc__read_members (fun vs H Q E h => ?_) (fun cdv A outer s H vs Q E hr h => ⟨_, (pss_cons (ps_set (i := 3) sc__read_members.nd rfl (.inl rfl) (pe_lst pa_nil))
  (pss_cons (ps_while (passes_of rfl) (PW.pt (pw_or (pt_not (pt_truth (pv 3) (by intro _; rfl))) (pw_or1 (PW.pt (pw_and (pt_cmpR op_lt (pe_callB call_len_seq (by rfl) M.len (by decide +kernel) (pa_cons (pv 3) pa_nil)) (pe_glob (by rfl) g_MOST_MEMBERS r_MOST_MEMBERS) (nomark _)) (pw_and1 (pt_val (pe_callC C__word_is (hr.mono (by first | decide | exact Nat.le_refl _ | omega)) (by rfl) (pa_cons (pv 0) (pa_cons (pv 1) (pa_cons pe_str pa_nil))))))))))) (pss_cons (ps_expr (pe_callX C__expect (hr.mono (by first | decide | exact Nat.le_refl _ | omega)) (by rfl) (L2.passes_call (takes_of rfl rfl rfl rfl) (fun _ _ _ _ h => h)) (pa_cons (pv 0) (pa_cons (pv 1) (pa_cons pe_str pa_nil)))))
  (pss_cons (ps_set (i := 4) sc__read_members.nd rfl (.inl rfl) (pe_callX C__new_name (hr.mono (by first | decide | exact Nat.le_refl _ | omega)) (by rfl) (L2.passes_call (takes_of rfl rfl rfl rfl) (fun _ _ _ _ h => h)) (pa_cons (pv 0) (pa_cons (pe_op op_add (pv 1) pe_int) (pa_cons (pe_callC C__names_of (hr.mono (by first | decide | exact Nat.le_refl _ | omega)) (by rfl) (pa_cons (pv 3) pa_nil)) pa_nil)))))
  (pss_cons (ps_asg (pe_callX C__read_amounts (hr.mono (by first | decide | exact Nat.le_refl _ | omega)) (by rfl) (L2.passes_call (takes_of rfl rfl rfl rfl) (fun _ _ _ _ h => h)) (pa_cons (pv 0) (pa_cons (pe_op op_add (pv 1) pe_int) (pa_cons pe_str (pa_cons (pv 2) pa_nil))))) (pg_tup (by rfl) (pgs_cons (pg_name (i := 5) sc__read_members.nd rfl (.inl rfl)) (pgs_cons (pg_name (i := 1) sc__read_members.nd rfl (.inl rfl)) pgs_nil))))
  (pss_one (ps_expr (pe_bm PySem.F.plainAttrs_list PySem.F.slot_list_append PySem.F.type_list_append mt_append (pv 3) (pa_cons (pe_tup (pa_cons (pv 4) (pa_cons (pv 5) pa_nil))) pa_nil))))))))
  (pss_one (ps_ret (pe_tup (pa_cons (pv 3) (pa_cons (pv 1) pa_nil))))))), ?_⟩)
  · obtain ⟨x, g, ws, i, goods, rfl, _⟩ := h
    rfl
  · obtain ⟨x, g, ws, i, goods, rfl, hw, hi, hg, hgl, q⟩ := h
    have hs := sizeLine_eq
    have q0 : ∀ r, readMembers ws i goods = r → Reads2 K C H Q E (r.map fun r => (.list (membD r.1), r.2)) := fun r e => by
      rw [← e]
      exact q
    refine ⟨(by show 0 ≤ sizeLine; omega), fun M hM => ?_⟩
    refine ⟨fun m σ H' => ∃ (acc : List Memb) (j : Nat) (vs : List V) (G : Hp) (z1 z2 : Option V), acc.length + m = 5 ∧ σ = [some (.ref x), some (.int (j : Nat)), some (.ref g), some (.ref M), z1, z2] ∧ Same H H' ∧ H' M = some (.lst vs) ∧ Reg H H' G [M] ∧ DpAll K G vs (membD acc) ∧
        j + 4000 * m ≤ i + 20000 ∧ membGo ws goods m acc j = readMembers ws i goods,
      ⟨5, [], i, [], hp0, none, none, rfl, rfl, same_upd hM, upd_same, reg0, .nil, by omega, rfl⟩, ?_⟩
    rintro m σ H' ⟨acc, j, vs, G, z1, z2, hm, rfl, sm, eM, rG, dG, bj, go⟩
    have hvl : vs.length = acc.length := by
      have z := dpa_len dG
      unfold membD at z
      rw [List.length_map] at z
      exact z
    have fin : readMembers ws i goods = .ok (acc, j) → tRet (tTup (tCons (tVar 3) (tCons (tVar 1) tNil))) { nx := fun x H' => Q V.non H', rt := Q } [some (.ref x), some (.int (j : Nat)), some (.ref g), some (.ref M), z1, z2] H' := by
      intro e
      refine ⟨_, rfl, _, rfl, (by show 2 ≤ sizeLine; omega), fun p hp => ?_⟩
      exact q0 _ e p (.ref M) _ (sm.trans (same_upd hp)) upd_same ⟨upd G M (.lst vs), (rG.take hM eM (fun _ h => by cases h)).more (same_upd hp), .lst (.inl (.inl upd_same)) (dpa_same (same_upd (rG.out M (by simp))) dG)⟩
    refine tOr_of acc.isEmpty (decide (acc.length < 5) && decide (wordAt ws j = "member")) (fun Q' q' => tNot_of (!acc.isEmpty) (fun Q' q' => ⟨_, rfl, _, .inl ⟨_, .inl (.inl eM), rfl⟩, ?_⟩) ?_) (fun hb Q' q' => tAnd_of _ _ (fun Q' q' => ⟨_, rfl, _, _, rfl, .inl (.inl (.inl eM)), ?_⟩) (fun hb Q' q' => ⟨_, rfl, _, rfl, x, ws, j, _, rfl, ws_same sm hw, by omega, _, rfl, q'⟩) q') ?_
    · rw [isEmpty_len hvl]
      exact q'
    · rw [Bool.not_not]
      exact q'
    · refine ⟨_, _, rfl, rfl, _, rfl, ?_⟩
      exact (lt_lenV (n := 5) hvl).symm ▸ q'
    cases m with
    | zero =>
      have e4 : acc.length = 5 := hm
      refine ifF ?_ (fin go.symm)
      cases acc with
      | nil => cases e4
      | cons a l =>
        rw [decide_eq_false (show ¬ (a :: l).length < 5 by omega)]
        rfl
    | succ n =>
      rw [membGo] at go
      by_cases c : acc = [] ∨ wordAt ws j = "member"
      · rw [if_pos c] at go
        refine ifT (by
          rcases c with c | c
          · rw [c]
            rfl
          · rw [decide_eq_true (show acc.length < 5 by omega), decide_eq_true c, Bool.and_true, Bool.or_true]) ?_
        refine ⟨fun σ' H2 => ∃ m', m' < n + 1 ∧ ∃ (acc : List Memb) (j : Nat) (vs : List V) (G : Hp) (z1 z2 : Option V), acc.length + m' = 5 ∧ σ' = [some (.ref x), some (.int (j : Nat)), some (.ref g), some (.ref M), z1, z2] ∧ Same H H2 ∧ H2 M = some (.lst vs) ∧ Reg H H2 G [M] ∧ DpAll K G vs (membD acc) ∧
          j + 4000 * m' ≤ i + 20000 ∧ membGo ws goods m' acc j = readMembers ws i goods, fun _ _ h => h, ?_⟩
        refine ⟨_, rfl, _, rfl, x, ws, j, _, rfl, ws_same sm hw, by omega, fun e => ?_, fun e => ?_⟩
        · rw [if_pos e] at go
          have dH := dpa_same rG.sub dG
          refine ⟨_, rfl, _, rfl, _, _, rfl, rfl, _, rfl, M, vs, membD acc, acc.map (·.1), rfl, .inl (.inl (.inl eM)), dH, memb_names acc, (by rw [List.length_map]; omega), fun D H1 hD e1 => ?_⟩
          subst e1
          have s1 : Same H' (upd H' D (.lst ((acc.map (·.1)).map V.str))) := same_upd hD
          refine ⟨x, D, ws, j + 1, acc.map (·.1), rfl, ws_same (sm.trans s1) hw, by omega, .inl (.inl upd_same), fun hn H2 s2 => ?_, fun hn => ?_⟩
          · rw [if_pos hn] at go
            have s02 := (sm.trans s1).trans s2
            refine ⟨_, rfl, _, rfl, _, _, rfl, rfl, _, rfl, x, g, ws, j + 2, "has", goods, rfl, ws_same s02 hw, by omega, sqL_same s02 hg, hgl, ?_⟩
            generalize hra : readAmounts ws (j + 2) "has" goods = ra at go ⊢
            cases ra with
            | error e =>
              have z : ErrAt C H E e := q0 _ go.symm
              exact z.same s02
            | ok r =>
              intro p v H3 s3 ep hmade
              have far := amounts_far hra
              have e2 := s2 _ _ (s1 _ _ eM)
              have e3 := s3 _ _ e2
              obtain ⟨G', rG', dG', dv, _⟩ := join_made (rG.more (s1.trans s2)) dG s02 s3 e2 hmade
              refine ⟨p, _, rfl, .inl (.inl ep), rfl, v, _, rfl, _, _, rfl, rfl, ?_⟩
              refine ⟨_, rfl, tyL (.inl (.inl e3)), _, rfl, _, rfl, (by show 2 ≤ sizeLine; omega), fun t ht => ?_⟩
              dsimp only [tNil]
              have tM : M ≠ t := ne_of_none e3 ht
              obtain ⟨s5, G5, r5, d5⟩ := app_step rG' dG' (DpAll.cons (.str (wordAt ws (j + 1))) (.cons dv .nil)) ht e3 (s02.trans s3) hM
              refine ⟨M, vs, _, rfl, rfl, by rw [upd_ne tM]; exact e3, by omega, n, Nat.lt_succ_self _, acc ++ [(wordAt ws (j + 1), r.1)], r.2, _, G5, _, _, by rw [List.length_append]; show _ + 1 + _ = 5; omega, rfl, s5, upd_same, r5, ?_, by omega, go⟩
              have z : membD (acc ++ [(wordAt ws (j + 1), r.1)]) = membD acc ++ [.tuple [.str (wordAt ws (j + 1)), .list (amtD r.1)]] := by
                unfold membD
                rw [List.map_append]
                rfl
              rw [z]
              exact d5
          · rw [if_neg (by rw [hn]; decide)] at go
            have z : ErrAt C H E (j + 1) := q0 _ go.symm
            exact z.same (sm.trans s1)
        · rw [if_neg e] at go
          have z : ErrAt C H E j := q0 _ go.symm
          exact z.same sm
      · rw [if_neg c] at go
        refine ifF ?_ (fin go.symm)
        have c1 : acc.isEmpty = false := by
          cases acc with
          | nil => exact absurd (.inl rfl) c
          | cons a l => rfl
        rw [c1, decide_eq_false (fun e => c (.inr e)), Bool.and_false]
        rfl
end

/-! ### house: orders -/
structure Ordr where
  name : Str
  pay : Nat
  takes : List (Nat × Nat)
deriving DecidableEq
def ordD1 (o : Ordr) : PyData := .tuple [.str o.name, .int (o.pay : Nat), .list (amtD o.takes)]
def ordD (l : List Ordr) : List PyData := l.map ordD1
def ordGo (ws : List Str) (goods : List Str) : Nat → List Ordr → Nat → Except Nat (List Ordr × Nat)
  | 0, acc, i => .ok (acc, i)
  | n + 1, acc, i => if wordAt ws i = "order" then
      (if nameOk ws (i + 1) (acc.map (·.name)) = true then
        (if wordAt ws (i + 2) = "pays" then
          (if isNumber (wordAt ws (i + 3)) = true then
            (if wordAt ws (i + 4) = "takes" then
              (match readAmounts ws (i + 4) "takes" goods with
                | .ok r => ordGo ws goods n (acc ++ [⟨wordAt ws (i + 1), numOf (wordAt ws (i + 3)), r.1⟩]) r.2
                | .error e => .error e)
            else .error (i + 4))
          else .error (i + 3))
        else .error (i + 2))
      else .error (i + 1))
    else .ok (acc, i)
def readOrders (ws : List Str) (i : Nat) (goods : List Str) : Except Nat (List Ordr × Nat) := ordGo ws goods 4 [] i
def spReadOrders (K : PySem.W.Frag) (C : Addr) : Sp := fun vs H Q E => ∃ (w g : Addr) (ws : List Str) (i : Nat) (goods : List Str), vs = [.ref w, .int (i : Nat), .ref g] ∧ Ws K H w ws ∧ i ≤ 300000 ∧ SqL K H g (goods.map V.str) ∧ goods.length ≤ 1000 ∧
  Reads2 K C H Q E ((readOrders ws i goods).map fun r => (.list (ordD r.1), r.2))
theorem ord_names (l : List Ordr) : (ordD l).map nameD = (l.map (·.name)).map some := by
  unfold ordD
  rw [List.map_map, List.map_map]
  rfl
section
variable {P : Program} {w : World} {K : PySem.W.Frag} {mg : Str → Option Value} {base : Heap} {f kw C fI : Addr} {fd : FuncData}
theorem ok__read_orders (T : HT P K mg kw C fI) (M : MB mg) (F : FnP K "_read_orders" s__read_orders f fd) (C__word_is : Callee P w K mg base CX0 "_word_is" ["words", "at", "word"] 2 (spWordIs K))
    (C__expect : Callee P w K mg base (L2.CX P w) "_expect" ["words", "at", "word"] 3 (spExpect K C)) (C__new_name : Callee P w K mg base (L2.CX P w) "_new_name" ["words", "at", "taken"] 2 (spNewName K C))
    (C__number : Callee P w K mg base (L2.CX P w) "_number" ["words", "at"] 2 (spNumber K C))
    (C__names_of : Callee P w K mg base CX0 "_names_of" ["parts"] 1 (spNamesOf K)) (C__read_amounts : Callee P w K mg base (L2.CX P w) "_read_amounts" ["words", "at", "key", "goods"] 4 (spReadAmounts K C)) :
    FnOk P w K mg base (L2.CX P w) 5 f fd ["words", "at", "goods"] (spReadOrders K C) := by
  obtain ⟨t8, g_MOST_ORDERS⟩ := T.i8
  have r_MOST_ORDERS : RelV (.int 4) (.int 4 t8) := ⟨_, rfl⟩
  refine F.ok sc__read_orders (fun vs H Q E h => ?_) (fun cdv A outer s H vs Q E hr h => ⟨_, (pss_cons (ps_set (i := 3) sc__read_orders.nd rfl (.inl rfl) (pe_lst pa_nil))
  (pss_cons (ps_while (passes_of rfl) (PW.pt (pw_and (pt_cmpR op_lt (pe_callB call_len_seq (by rfl) M.len (by decide +kernel) (pa_cons (pv 3) pa_nil)) (pe_glob (by rfl) g_MOST_ORDERS r_MOST_ORDERS) (nomark _)) (pw_and1 (pt_val (pe_callC C__word_is (hr.mono (by first | decide | exact Nat.le_refl _ | omega)) (by rfl) (pa_cons (pv 0) (pa_cons (pv 1) (pa_cons pe_str pa_nil)))))))) (pss_cons (ps_set (i := 4) sc__read_orders.nd rfl (.inl rfl) (pe_callX C__new_name (hr.mono (by first | decide | exact Nat.le_refl _ | omega)) (by rfl) (L2.passes_call (takes_of rfl rfl rfl rfl) (fun _ _ _ _ h => h)) (pa_cons (pv 0) (pa_cons (pe_op op_add (pv 1) pe_int) (pa_cons (pe_callC C__names_of (hr.mono (by first | decide | exact Nat.le_refl _ | omega)) (by rfl) (pa_cons (pv 3) pa_nil)) pa_nil)))))
  (pss_cons (ps_expr (pe_callX C__expect (hr.mono (by first | decide | exact Nat.le_refl _ | omega)) (by rfl) (L2.passes_call (takes_of rfl rfl rfl rfl) (fun _ _ _ _ h => h)) (pa_cons (pv 0) (pa_cons (pe_op op_add (pv 1) pe_int) (pa_cons pe_str pa_nil)))))
  (pss_cons (ps_set (i := 5) sc__read_orders.nd rfl (.inl rfl) (pe_callX C__number (hr.mono (by first | decide | exact Nat.le_refl _ | omega)) (by rfl) (L2.passes_call (takes_of rfl rfl rfl rfl) (fun _ _ _ _ h => h)) (pa_cons (pv 0) (pa_cons (pe_op op_add (pv 1) pe_int) pa_nil))))
  (pss_cons (ps_expr (pe_callX C__expect (hr.mono (by first | decide | exact Nat.le_refl _ | omega)) (by rfl) (L2.passes_call (takes_of rfl rfl rfl rfl) (fun _ _ _ _ h => h)) (pa_cons (pv 0) (pa_cons (pe_op op_add (pv 1) pe_int) (pa_cons pe_str pa_nil)))))
  (pss_cons (ps_asg (pe_callX C__read_amounts (hr.mono (by first | decide | exact Nat.le_refl _ | omega)) (by rfl) (L2.passes_call (takes_of rfl rfl rfl rfl) (fun _ _ _ _ h => h)) (pa_cons (pv 0) (pa_cons (pe_op op_add (pv 1) pe_int) (pa_cons pe_str (pa_cons (pv 2) pa_nil))))) (pg_tup (by rfl) (pgs_cons (pg_name (i := 6) sc__read_orders.nd rfl (.inl rfl)) (pgs_cons (pg_name (i := 1) sc__read_orders.nd rfl (.inl rfl)) pgs_nil))))
  (pss_one (ps_expr (pe_bm PySem.F.plainAttrs_list PySem.F.slot_list_append PySem.F.type_list_append mt_append (pv 3) (pa_cons (pe_tup (pa_cons (pv 4) (pa_cons (pv 5) (pa_cons (pv 6) pa_nil)))) pa_nil))))))))))
  (pss_one (ps_ret (pe_tup (pa_cons (pv 3) (pa_cons (pv 1) pa_nil))))))), ?_⟩)
  · obtain ⟨x, g, ws, i, goods, rfl, _⟩ := h
    rfl
  · obtain ⟨x, g, ws, i, goods, rfl, hw, hi, hg, hgl, q⟩ := h
    have hs := sizeLine_eq
    have q0 : ∀ r, readOrders ws i goods = r → Reads2 K C H Q E (r.map fun r => (.list (ordD r.1), r.2)) := fun r e => by
      rw [← e]
      exact q
    refine ⟨(by show 0 ≤ sizeLine; omega), fun M hM => ?_⟩
    refine ⟨fun m σ H' => ∃ (acc : List Ordr) (j : Nat) (vs : List V) (G : Hp) (z1 z2 z3 : Option V), acc.length + m = 4 ∧ σ = [some (.ref x), some (.int (j : Nat)), some (.ref g), some (.ref M), z1, z2, z3] ∧ Same H H' ∧ H' M = some (.lst vs) ∧ Reg H H' G [M] ∧ DpAll K G vs (ordD acc) ∧
        j + 4000 * m ≤ i + 16000 ∧ ordGo ws goods m acc j = readOrders ws i goods,
      ⟨4, [], i, [], hp0, none, none, none, rfl, rfl, same_upd hM, upd_same, reg0, .nil, by omega, rfl⟩, ?_⟩
    rintro m σ H' ⟨acc, j, vs, G, z1, z2, z3, hm, rfl, sm, eM, rG, dG, bj, go⟩
    have hvl : vs.length = acc.length := by
      have z := dpa_len dG
      unfold ordD at z
      rw [List.length_map] at z
      exact z
    have fin : readOrders ws i goods = .ok (acc, j) → tRet (tTup (tCons (tVar 3) (tCons (tVar 1) tNil))) { nx := fun x H' => Q V.non H', rt := Q } [some (.ref x), some (.int (j : Nat)), some (.ref g), some (.ref M), z1, z2, z3] H' := by
      intro e
      refine ⟨_, rfl, _, rfl, (by show 2 ≤ sizeLine; omega), fun p hp => ?_⟩
      exact q0 _ e p (.ref M) _ (sm.trans (same_upd hp)) upd_same ⟨upd G M (.lst vs), (rG.take hM eM (fun _ h => by cases h)).more (same_upd hp), .lst (.inl (.inl upd_same)) (dpa_same (same_upd (rG.out M (by simp))) dG)⟩
    refine tAnd_of (decide (acc.length < 4)) (decide (wordAt ws j = "order")) (fun Q' q' => ⟨_, rfl, _, _, rfl, .inl (.inl (.inl eM)), ?_⟩) (fun hb Q' q' => ⟨_, rfl, _, rfl, x, ws, j, _, rfl, ws_same sm hw, by omega, _, rfl, q'⟩) ?_
    · refine ⟨_, _, rfl, rfl, _, rfl, ?_⟩
      exact (lt_lenV (n := 4) hvl).symm ▸ q'
    cases m with
    | zero =>
      have e4 : acc.length = 4 := hm
      refine ifF ?_ (fin go.symm)
      rw [decide_eq_false (show ¬ acc.length < 4 by omega)]
      rfl
    | succ n =>
      rw [ordGo] at go
      by_cases c : wordAt ws j = "order"
      · rw [if_pos c] at go
        refine ifT (by rw [decide_eq_true (show acc.length < 4 by omega), decide_eq_true c]; rfl) ?_
        refine ⟨fun σ' H2 => ∃ m', m' < n + 1 ∧ ∃ (acc : List Ordr) (j : Nat) (vs : List V) (G : Hp) (z1 z2 z3 : Option V), acc.length + m' = 4 ∧ σ' = [some (.ref x), some (.int (j : Nat)), some (.ref g), some (.ref M), z1, z2, z3] ∧ Same H H2 ∧ H2 M = some (.lst vs) ∧ Reg H H2 G [M] ∧ DpAll K G vs (ordD acc) ∧
          j + 4000 * m' ≤ i + 16000 ∧ ordGo ws goods m' acc j = readOrders ws i goods, fun _ _ h => h, ?_⟩
        have dH := dpa_same rG.sub dG
        refine ⟨_, rfl, _, rfl, _, _, rfl, rfl, _, rfl, M, vs, ordD acc, acc.map (·.name), rfl, .inl (.inl (.inl eM)), dH, ord_names acc, (by rw [List.length_map]; omega), fun D H1 hD e1 => ?_⟩
        subst e1
        have s1 : Same H' (upd H' D (.lst ((acc.map (·.name)).map V.str))) := same_upd hD
        refine ⟨x, D, ws, j + 1, acc.map (·.name), rfl, ws_same (sm.trans s1) hw, by omega, .inl (.inl upd_same), fun hn H2 s2 => ?_, fun hn => ?_⟩
        · rw [if_pos hn] at go
          have s02 := (sm.trans s1).trans s2
          refine ⟨_, rfl, _, rfl, _, _, rfl, rfl, x, ws, j + 2, _, rfl, ws_same s02 hw, by omega, fun e => ?_, fun e => ?_⟩
          · rw [if_pos e] at go
            refine ⟨_, rfl, _, rfl, _, _, rfl, rfl, x, ws, j + 3, rfl, ws_same s02 hw, by omega, fun hn3 H3 s3 => ?_, fun hn3 => ?_⟩
            · rw [if_pos hn3] at go
              have s03 := s02.trans s3
              refine ⟨_, rfl, _, rfl, _, _, rfl, rfl, x, ws, j + 4, _, rfl, ws_same s03 hw, by omega, fun e4 => ?_, fun e4 => ?_⟩
              · rw [if_pos e4] at go
                refine ⟨_, rfl, _, rfl, _, _, rfl, rfl, _, rfl, x, g, ws, j + 4, "takes", goods, rfl, ws_same s03 hw, by omega, sqL_same s03 hg, hgl, ?_⟩
                generalize hra : readAmounts ws (j + 4) "takes" goods = ra at go ⊢
                cases ra with
                | error e =>
                  have z : ErrAt C H E e := q0 _ go.symm
                  exact z.same s03
                | ok r =>
                  intro p v H4 s4 ep hmade
                  have far := amounts_far hra
                  have e3 := s3 _ _ (s2 _ _ (s1 _ _ eM))
                  have e5 := s4 _ _ e3
                  obtain ⟨G', rG', dG', dv, _⟩ := join_made (rG.more ((s1.trans s2).trans s3)) dG s03 s4 e3 hmade
                  refine ⟨p, _, rfl, .inl (.inl ep), rfl, v, _, rfl, _, _, rfl, rfl, ?_⟩
                  refine ⟨_, rfl, tyL (.inl (.inl e5)), _, rfl, _, rfl, _, rfl, (by show 3 ≤ sizeLine; omega), fun t ht => ?_⟩
                  dsimp only [tNil]
                  have tM : M ≠ t := ne_of_none e5 ht
                  obtain ⟨s5, G5, r5, d5⟩ := app_step rG' dG' (DpAll.cons (.str (wordAt ws (j + 1))) (.cons (.int (numOf (wordAt ws (j + 3)) : Nat)) (.cons dv .nil))) ht e5 (s03.trans s4) hM
                  refine ⟨M, vs, _, rfl, rfl, by rw [upd_ne tM]; exact e5, by omega, n, Nat.lt_succ_self _, acc ++ [⟨wordAt ws (j + 1), numOf (wordAt ws (j + 3)), r.1⟩], r.2, _, G5, _, _, _, by rw [List.length_append]; show _ + 1 + _ = 4; omega, rfl, s5, upd_same, r5, ?_, by omega, go⟩
                  have z : ordD (acc ++ [⟨wordAt ws (j + 1), numOf (wordAt ws (j + 3)), r.1⟩]) = ordD acc ++ [.tuple [.str (wordAt ws (j + 1)), .int (numOf (wordAt ws (j + 3)) : Nat), .list (amtD r.1)]] := by
                    unfold ordD
                    rw [List.map_append]
                    rfl
                  rw [z]
                  exact d5
              · rw [if_neg e4] at go
                have z : ErrAt C H E (j + 4) := q0 _ go.symm
                exact z.same s03
            · rw [if_neg (by rw [hn3]; decide)] at go
              have z : ErrAt C H E (j + 3) := q0 _ go.symm
              exact z.same s02
          · rw [if_neg e] at go
            have z : ErrAt C H E (j + 2) := q0 _ go.symm
            exact z.same s02
        · rw [if_neg (by rw [hn]; decide)] at go
          have z : ErrAt C H E (j + 1) := q0 _ go.symm
          exact z.same (sm.trans s1)
      · rw [if_neg c] at go
        refine ifF ?_ (fin go.symm)
        rw [decide_eq_false c, Bool.and_false]
end

/-! ### house: needs -/
def needsGo (ws : List Str) (names : List Str) : Nat → List Nat → List Nat → Nat → Except Nat (List Nat × Nat)
  | 0, _, acc, i => .ok (acc, i)
  | n + 1, left, acc, i => if left ≠ [] ∧ wordAt ws i = "needs" then
      (match oneOf ws (i + 1) names left with
        | none => .error (i + 1)
        | some k => needsGo ws names n (left.eraseIdx (left.idxOf k)) (acc ++ [k]) (i + 2))
    else .ok (acc, i)
def readNeeds (ws : List Str) (i : Nat) (names : List Str) : Except Nat (List Nat × Nat) := needsGo ws names 2 (List.range names.length) [] i
def natD (l : List Nat) : List PyData := l.map fun n => .int (n : Nat)
theorem natD_dpa {K : PySem.W.Frag} {H : Hp} : ∀ (l : List Nat), DpAll K H (natV l) (natD l)
  | [] => .nil
  | x :: l => .cons (.int (x : Nat)) (natD_dpa l)
theorem needs_far {ws names : List Str} : ∀ {n : Nat} {left acc : List Nat} {i : Nat} {r : List Nat × Nat}, needsGo ws names n left acc i = .ok r → r.2 ≤ i + 2 * n
  | 0, _, _, i, r, h => by
    rw [needsGo] at h
    cases h
    exact Nat.le_refl _
  | n + 1, left, acc, i, r, h => by
    rw [needsGo] at h
    split at h
    · split at h
      · cases h
      · have := needs_far h
        omega
    · cases h
      show i ≤ _
      omega
def spReadNeeds (K : PySem.W.Frag) (C : Addr) : Sp := fun vs H Q E => ∃ (w g : Addr) (ws : List Str) (i : Nat) (names : List Str), vs = [.ref w, .int (i : Nat), .ref g] ∧ Ws K H w ws ∧ i ≤ 500000 ∧ SqL K H g (names.map V.str) ∧ names.length ≤ 1000 ∧
  Reads2 K C H Q E ((readNeeds ws i names).map fun r => (.list (natD r.1), r.2))
section
variable {P : Program} {w : World} {K : PySem.W.Frag} {mg : Str → Option Value} {base : Heap} {f kw C fI : Addr} {fd : FuncData}
theorem ok__read_needs (T : HT P K mg kw C fI) (M : MB mg) (F : FnP K "_read_needs" s__read_needs f fd) (C__word_is : Callee P w K mg base CX0 "_word_is" ["words", "at", "word"] 2 (spWordIs K))
    (C__one_of : Callee P w K mg base (L2.CX P w) "_one_of" ["words", "at", "names", "indexes"] 3 (spOneOf K C)) :
    FnOk P w K mg base (L2.CX P w) 4 f fd ["words", "at", "names"] (spReadNeeds K C) := by
  obtain ⟨t8, g_MOST_NEEDS⟩ := T.i7
  have r_MOST_NEEDS : RelV (.int 2) (.int 2 t8) := ⟨_, rfl⟩
  refine F.ok sc__read_needs (fun vs H Q E h => ?_) (fun cdv A outer s H vs Q E hr h => ⟨_, (pss_cons (ps_set (i := 3) sc__read_needs.nd rfl (.inl rfl) (pe_listRg rfl (by rfl) M.list (prg_1 (by rfl) M.range (pe_callB call_len_seq (by rfl) M.len (by decide +kernel) (pa_cons (pv 2) pa_nil)))))
  (pss_cons (ps_set (i := 4) sc__read_needs.nd rfl (.inl rfl) (pe_lst pa_nil))
  (pss_cons (ps_while (passes_of rfl) (PW.pt (pw_and (pt_truth (pv 3) (by intro _; rfl)) (pw_and (pt_cmpR op_lt (pe_callB call_len_seq (by rfl) M.len (by decide +kernel) (pa_cons (pv 4) pa_nil)) (pe_glob (by rfl) g_MOST_NEEDS r_MOST_NEEDS) (nomark _)) (pw_and1 (pt_val (pe_callC C__word_is (hr.mono (by first | decide | exact Nat.le_refl _ | omega)) (by rfl) (pa_cons (pv 0) (pa_cons (pv 1) (pa_cons pe_str pa_nil))))))))) (pss_cons (ps_set (i := 5) sc__read_needs.nd rfl (.inl rfl) (pe_callX C__one_of (hr.mono (by first | decide | exact Nat.le_refl _ | omega)) (by rfl) (L2.passes_call (takes_of rfl rfl rfl rfl) (fun _ _ _ _ h => h)) (pa_cons (pv 0) (pa_cons (pe_op op_add (pv 1) pe_int) (pa_cons (pv 2) (pa_cons (pv 3) pa_nil))))))
  (pss_cons (ps_expr (pe_bm PySem.F.plainAttrs_list PySem.F.slot_list_append PySem.F.type_list_append mt_append (pv 4) (pa_cons (pv 5) pa_nil)))
  (pss_cons (ps_expr (pe_bm PySem.F.plainAttrs_list PySem.F.slot_list_remove PySem.F.type_list_remove mt_remove (pv 3) (pa_cons (pv 5) pa_nil)))
  (pss_one (ps_aug (i := 1) sc__read_needs.nd rfl (.inl rfl) pe_int ip_add))))))
  (pss_one (ps_ret (pe_tup (pa_cons (pv 4) (pa_cons (pv 1) pa_nil)))))))), ?_⟩)
  · obtain ⟨x, g, ws, i, names, rfl, _⟩ := h
    rfl
  · obtain ⟨x, g, ws, i, names, rfl, hw, hi, hg, hl, q⟩ := h
    have hs := sizeLine_eq
    have q0 : ∀ r, readNeeds ws i names = r → Reads2 K C H Q E (r.map fun r => (.list (natD r.1), r.2)) := fun r e => by
      rw [← e]
      exact q
    refine ⟨_, rfl, _, _, rfl, .inl hg, _, rfl, ⟨by omega, by omega, by omega, by rw [List.length_map]; omega, by rw [List.length_map]; omega⟩, fun L hL => ?_⟩
    refine ⟨(by show 0 ≤ sizeLine; omega), fun M hM => ?_⟩
    have hLM : M ≠ L := fun z => by
      rw [z, upd_same] at hM
      cases hM
    have hM0 : H M = none := by
      rw [upd_ne hLM] at hM
      exact hM
    refine ⟨fun m σ H' => ∃ (left acc : List Nat) (j : Nat) (z : Option V), acc.length + m = 2 ∧ σ = [some (.ref x), some (.int (j : Nat)), some (.ref g), some (.ref L), some (.ref M), z] ∧ Same H H' ∧
      H' L = some (.lst (natV left)) ∧ H' M = some (.lst (natV acc)) ∧ (∀ k ∈ left, k < names.length) ∧ j + 2 * m ≤ i + 4 ∧ needsGo ws names m left acc j = readNeeds ws i names,
      ⟨2, List.range names.length, [], i, none, rfl, rfl, (same_upd hL).trans (same_upd hM), ?_, upd_same, fun k hk => List.mem_range.mp hk, Nat.le_refl _, rfl⟩, ?_⟩
    · rw [upd_ne hLM.symm, upd_same, List.length_map]
      exact congrArg (fun z => some (HO.lst z)) (rg_nat _)
    rintro m σ H' ⟨left, acc, j, z, hm, rfl, sm, eL, eM, bk, bj, go⟩
    have hvl : (natV acc).length = acc.length := List.length_map _
    have fin : readNeeds ws i names = .ok (acc, j) → tRet (tTup (tCons (tVar 4) (tCons (tVar 1) tNil))) { nx := fun x H' => Q V.non H', rt := Q } [some (.ref x), some (.int (j : Nat)), some (.ref g), some (.ref L), some (.ref M), z] H' := by
      intro e
      refine ⟨_, rfl, _, rfl, (by show 2 ≤ sizeLine; omega), fun p hp => ?_⟩
      exact q0 _ e p (.ref M) _ (sm.trans (same_upd hp)) upd_same ⟨upd hp0 M (.lst (natV acc)), ((reg0 (H0 := H) (H := H') (ex := [M])).take hM0 eM (fun _ h => by cases h)).more (same_upd hp), .lst (.inl (.inl upd_same)) (natD_dpa acc)⟩
    refine tAnd_of (!left.isEmpty) (decide (acc.length < 2) && decide (wordAt ws j = "needs")) (fun Q' q' => ⟨_, rfl, _, .inl ⟨_, .inl (.inl eL), rfl⟩, ?_⟩) (fun hb Q' q' => tAnd_of _ _ (fun Q' q' => ⟨_, rfl, _, _, rfl, .inl (.inl (.inl eM)), ?_⟩) (fun hb Q' q' => ⟨_, rfl, _, rfl, x, ws, j, _, rfl, ws_same sm hw, by omega, _, rfl, q'⟩) q') ?_
    · unfold natV
      rw [List.isEmpty_map]
      exact q'
    · refine ⟨_, _, rfl, rfl, _, rfl, ?_⟩
      exact (lt_lenV (n := 2) hvl).symm ▸ q'
    cases m with
    | zero =>
      have e4 : acc.length = 2 := hm
      refine ifF ?_ (fin go.symm)
      rw [decide_eq_false (show ¬ acc.length < 2 by omega), Bool.false_and, Bool.and_false]
    | succ n =>
      rw [needsGo] at go
      by_cases c : left ≠ [] ∧ wordAt ws j = "needs"
      · rw [if_pos c] at go
        refine ifT (by
          have c1 : left.isEmpty = false := by
            cases left with
            | nil => exact absurd rfl c.1
            | cons a l => rfl
          rw [c1, decide_eq_true (show acc.length < 2 by omega), decide_eq_true c.2]
          rfl) ?_
        refine ⟨fun σ' H2 => ∃ m', m' < n + 1 ∧ ∃ (left acc : List Nat) (j : Nat) (z : Option V), acc.length + m' = 2 ∧ σ' = [some (.ref x), some (.int (j : Nat)), some (.ref g), some (.ref L), some (.ref M), z] ∧ Same H H2 ∧
          H2 L = some (.lst (natV left)) ∧ H2 M = some (.lst (natV acc)) ∧ (∀ k ∈ left, k < names.length) ∧ j + 2 * m' ≤ i + 4 ∧ needsGo ws names m' left acc j = readNeeds ws i names, fun _ _ h => h, ?_⟩
        refine ⟨_, rfl, _, rfl, _, _, rfl, rfl, _, rfl, _, rfl, x, g, L, ws, j + 1, names, left, rfl, ws_same sm hw, by omega, sqL_same sm hg, .inl (.inl eL), bk, hl, fun k hk => ?_, fun hk => ?_⟩
        · rw [hk] at go
          dsimp only at go
          have hkm : k ∈ left := List.mem_of_find?_eq_some hk
          refine ⟨_, rfl, tyL (.inl (.inl eM)), _, rfl, ?_⟩
          dsimp only [tNil]
          refine ⟨M, natV acc, _, rfl, rfl, eM, by omega, ?_⟩
          have eL4 : upd H' M (.lst (natV acc ++ [.int (k : Nat)])) L = some (.lst (natV left)) := by
            rw [upd_ne hLM.symm]
            exact eL
          refine ⟨_, rfl, tyL (.inl (.inl eL4)), _, rfl, ?_⟩
          dsimp only [tNil]
          refine rem_nat eL4 hkm ?_
          refine ⟨_, rfl, _, _, rfl, rfl, n, Nat.lt_succ_self _, left.eraseIdx (left.idxOf k), acc ++ [k], j + 2, _, by rw [List.length_append]; show _ + 1 + _ = 2; omega, rfl, same_upd_new (same_upd_new sm hM0) hL, upd_same, ?_, fun a ha => bk a (List.mem_of_mem_eraseIdx ha), by omega, go⟩
          rw [upd_ne hLM, upd_same]
          unfold natV
          rw [List.map_append]
          rfl
        · rw [hk] at go
          have z : ErrAt C H E (j + 1) := q0 _ go.symm
          exact z.same sm
      · rw [if_neg c] at go
        refine ifF ?_ (fin go.symm)
        cases left with
        | nil => rfl
        | cons a l =>
          have c2 : ¬ wordAt ws j = "needs" := fun e => c ⟨List.cons_ne_nil _ _, e⟩
          rw [decide_eq_false c2, Bool.and_false, Bool.and_false]
end

/-! ### house: recipes -/
structure Reci where
  name : Str
  cost : Nat
  times : Nat
  needs : List Nat
  takes : List (Nat × Nat)
  gives : List (Nat × Nat)
deriving DecidableEq
def reciD1 (o : Reci) : PyData := .tuple [.str o.name, .int (o.cost : Nat), .int (o.times : Nat), .list (natD o.needs), .list (amtD o.takes), .list (amtD o.gives)]
def reciD (l : List Reci) : List PyData := l.map reciD1
def readRecipe (ws : List Str) (i : Nat) (taken goods names : List Str) : Except Nat (Reci × Nat) :=
  if nameOk ws (i + 1) taken = true then
    (if wordAt ws (i + 2) = "cost" then
      (if isNumber (wordAt ws (i + 3)) = true then
        (if wordAt ws (i + 4) = "times" then
          (if isNumber (wordAt ws (i + 5)) = true then
            (if numOf (wordAt ws (i + 5)) < 1 ∨ 4 < numOf (wordAt ws (i + 5)) then .error (i + 5)
            else
              (match readNeeds ws (i + 6) names with
                | .error e => .error e
                | .ok r => (match readAmounts ws r.2 "takes" goods with
                  | .error e => .error e
                  | .ok r2 => (match readAmounts ws r2.2 "gives" goods with
                    | .error e => .error e
                    | .ok r3 => .ok (⟨wordAt ws (i + 1), numOf (wordAt ws (i + 3)), numOf (wordAt ws (i + 5)), r.1, r2.1, r3.1⟩, r3.2)))))
          else .error (i + 5))
        else .error (i + 4))
      else .error (i + 3))
    else .error (i + 2))
  else .error (i + 1)
def spReadRecipe (K : PySem.W.Frag) (C : Addr) : Sp := fun vs H Q E => ∃ (w t g n : Addr) (ws : List Str) (i : Nat) (taken goods names : List Str), vs = [.ref w, .int (i : Nat), .ref t, .ref g, .ref n] ∧ Ws K H w ws ∧ i ≤ 300000 ∧ SqL K H t (taken.map V.str) ∧ SqL K H g (goods.map V.str) ∧ goods.length ≤ 1000 ∧
  SqL K H n (names.map V.str) ∧ names.length ≤ 1000 ∧ Reads2 K C H Q E ((readRecipe ws i taken goods names).map fun r => (reciD1 r.1, r.2))
theorem lt_nat1 (n : Nat) : decide (n < 1) = decide (((n : Nat) : Int) < 1) := by
  rw [Bool.eq_iff_iff, decide_eq_true_iff, decide_eq_true_iff]
  omega
theorem lt_nat4 (n : Nat) : decide (4 < n) = decide ((4 : Int) < ((n : Nat) : Int)) := by
  rw [Bool.eq_iff_iff, decide_eq_true_iff, decide_eq_true_iff]
  omega
section
variable {P : Program} {w : World} {K : PySem.W.Frag} {mg : Str → Option Value} {base : Heap} {f kw C fI : Addr} {fd : FuncData}
theorem ok__read_recipe (T : HT P K mg kw C fI) (F : FnP K "_read_recipe" s__read_recipe f fd)
    (C__expect : Callee P w K mg base (L2.CX P w) "_expect" ["words", "at", "word"] 3 (spExpect K C)) (C__new_name : Callee P w K mg base (L2.CX P w) "_new_name" ["words", "at", "taken"] 2 (spNewName K C))
    (C__number : Callee P w K mg base (L2.CX P w) "_number" ["words", "at"] 2 (spNumber K C)) (C__read_needs : Callee P w K mg base (L2.CX P w) "_read_needs" ["words", "at", "names"] 4 (spReadNeeds K C))
    (C__read_amounts : Callee P w K mg base (L2.CX P w) "_read_amounts" ["words", "at", "key", "goods"] 4 (spReadAmounts K C)) :
    FnOk P w K mg base (L2.CX P w) 5 f fd ["words", "at", "taken", "goods", "names"] (spReadRecipe K C) := by
  obtain ⟨t8, g_MOST_TIMES⟩ := T.i6
  have r_MOST_TIMES : RelV (.int 4) (.int 4 t8) := ⟨_, rfl⟩
  refine F.ok sc__read_recipe (fun vs H Q E h => ?_) (fun cdv A outer s H vs Q E hr h => ⟨_, (pss_cons (ps_set (i := 5) sc__read_recipe.nd rfl (.inl rfl) (pe_callX C__new_name (hr.mono (by first | decide | exact Nat.le_refl _ | omega)) (by rfl) (L2.passes_call (takes_of rfl rfl rfl rfl) (fun _ _ _ _ h => h)) (pa_cons (pv 0) (pa_cons (pe_op op_add (pv 1) pe_int) (pa_cons (pv 2) pa_nil)))))
  (pss_cons (ps_expr (pe_callX C__expect (hr.mono (by first | decide | exact Nat.le_refl _ | omega)) (by rfl) (L2.passes_call (takes_of rfl rfl rfl rfl) (fun _ _ _ _ h => h)) (pa_cons (pv 0) (pa_cons (pe_op op_add (pv 1) pe_int) (pa_cons pe_str pa_nil)))))
  (pss_cons (ps_set (i := 6) sc__read_recipe.nd rfl (.inl rfl) (pe_callX C__number (hr.mono (by first | decide | exact Nat.le_refl _ | omega)) (by rfl) (L2.passes_call (takes_of rfl rfl rfl rfl) (fun _ _ _ _ h => h)) (pa_cons (pv 0) (pa_cons (pe_op op_add (pv 1) pe_int) pa_nil))))
  (pss_cons (ps_expr (pe_callX C__expect (hr.mono (by first | decide | exact Nat.le_refl _ | omega)) (by rfl) (L2.passes_call (takes_of rfl rfl rfl rfl) (fun _ _ _ _ h => h)) (pa_cons (pv 0) (pa_cons (pe_op op_add (pv 1) pe_int) (pa_cons pe_str pa_nil)))))
  (pss_cons (ps_set (i := 7) sc__read_recipe.nd rfl (.inl rfl) (pe_callX C__number (hr.mono (by first | decide | exact Nat.le_refl _ | omega)) (by rfl) (L2.passes_call (takes_of rfl rfl rfl rfl) (fun _ _ _ _ h => h)) (pa_cons (pv 0) (pa_cons (pe_op op_add (pv 1) pe_int) pa_nil))))
  (pss_cons (ps_if (PW.pt (pw_or (pt_cmpR op_lt (pv 7) pe_int (nomark _)) (pw_or1 (pt_cmpR op_gt (pv 7) (pe_glob (by rfl) g_MOST_TIMES r_MOST_TIMES) (nomark _))))) (pss_one (ps_raiseBt rfl (takes_of rfl rfl rfl rfl) T.bt (hr.mono (by first | decide | exact Nat.le_refl _ | omega) : Room (0 + 1) _) (pa_cons (pe_op op_add (pv 1) pe_int) pa_nil) (by rfl))) pss_nil)
  (pss_cons (ps_asg (pe_callX C__read_needs (hr.mono (by first | decide | exact Nat.le_refl _ | omega)) (by rfl) (L2.passes_call (takes_of rfl rfl rfl rfl) (fun _ _ _ _ h => h)) (pa_cons (pv 0) (pa_cons (pe_op op_add (pv 1) pe_int) (pa_cons (pv 4) pa_nil)))) (pg_tup (by rfl) (pgs_cons (pg_name (i := 8) sc__read_recipe.nd rfl (.inl rfl)) (pgs_cons (pg_name (i := 1) sc__read_recipe.nd rfl (.inl rfl)) pgs_nil))))
  (pss_cons (ps_asg (pe_callX C__read_amounts (hr.mono (by first | decide | exact Nat.le_refl _ | omega)) (by rfl) (L2.passes_call (takes_of rfl rfl rfl rfl) (fun _ _ _ _ h => h)) (pa_cons (pv 0) (pa_cons (pv 1) (pa_cons pe_str (pa_cons (pv 3) pa_nil))))) (pg_tup (by rfl) (pgs_cons (pg_name (i := 9) sc__read_recipe.nd rfl (.inl rfl)) (pgs_cons (pg_name (i := 1) sc__read_recipe.nd rfl (.inl rfl)) pgs_nil))))
  (pss_cons (ps_asg (pe_callX C__read_amounts (hr.mono (by first | decide | exact Nat.le_refl _ | omega)) (by rfl) (L2.passes_call (takes_of rfl rfl rfl rfl) (fun _ _ _ _ h => h)) (pa_cons (pv 0) (pa_cons (pv 1) (pa_cons pe_str (pa_cons (pv 3) pa_nil))))) (pg_tup (by rfl) (pgs_cons (pg_name (i := 10) sc__read_recipe.nd rfl (.inl rfl)) (pgs_cons (pg_name (i := 1) sc__read_recipe.nd rfl (.inl rfl)) pgs_nil))))
  (pss_one (ps_ret (pe_tup (pa_cons (pe_tup (pa_cons (pv 5) (pa_cons (pv 6) (pa_cons (pv 7) (pa_cons (pv 8) (pa_cons (pv 9) (pa_cons (pv 10) pa_nil))))))) (pa_cons (pv 1) pa_nil)))))))))))))), ?_⟩)
  · obtain ⟨x, t, g, n, ws, i, taken, goods, names, rfl, _⟩ := h
    rfl
  · obtain ⟨x, t, g, n, ws, i, taken, goods, names, rfl, hw, hi, ht, hg, hgl, hn, hnl, q⟩ := h
    have hs := sizeLine_eq
    have q0 : ∀ r, readRecipe ws i taken goods names = r → Reads2 K C H Q E (r.map fun r => (reciD1 r.1, r.2)) := fun r e => by
      rw [← e]
      exact q
    have go : ∀ r, readRecipe ws i taken goods names = r → readRecipe ws i taken goods names = r := fun _ e => e
    clear go
    generalize hr0 : readRecipe ws i taken goods names = r0 at q
    have go := hr0
    rw [readRecipe] at go
    refine ⟨_, rfl, _, rfl, _, _, rfl, rfl, _, rfl, x, t, ws, i + 1, taken, rfl, hw, by omega, ht, fun hn1 H1 s1 => ?_, fun hn1 => ?_⟩
    · rw [if_pos hn1] at go
      refine ⟨_, rfl, _, rfl, _, _, rfl, rfl, x, ws, i + 2, _, rfl, ws_same s1 hw, by omega, fun e2 => ?_, fun e2 => ?_⟩
      · rw [if_pos e2] at go
        refine ⟨_, rfl, _, rfl, _, _, rfl, rfl, x, ws, i + 3, rfl, ws_same s1 hw, by omega, fun hn3 H3 s3 => ?_, fun hn3 => ?_⟩
        · rw [if_pos hn3] at go
          have s03 := s1.trans s3
          refine ⟨_, rfl, _, rfl, _, _, rfl, rfl, x, ws, i + 4, _, rfl, ws_same s03 hw, by omega, fun e4 => ?_, fun e4 => ?_⟩
          · rw [if_pos e4] at go
            refine ⟨_, rfl, _, rfl, _, _, rfl, rfl, x, ws, i + 5, rfl, ws_same s03 hw, by omega, fun hn5 H5 s5 => ?_, fun hn5 => ?_⟩
            · rw [if_pos hn5] at go
              have s05 := s03.trans s5
              dsimp only [gName]
              unfold tSeq
              dsimp only
              unfold tIfS
              refine tOr_of (decide (numOf (wordAt ws (i + 5)) < 1)) (decide (4 < numOf (wordAt ws (i + 5)))) (fun Q' q' => ⟨_, rfl, _, _, rfl, rfl, _, rfl, ?_⟩) (fun hb Q' q' => ⟨_, rfl, _, _, rfl, rfl, _, rfl, ?_⟩) ?_
              · exact (lt_nat1 _) ▸ q'
              · exact (lt_nat4 _) ▸ q'
              by_cases c : numOf (wordAt ws (i + 5)) < 1 ∨ 4 < numOf (wordAt ws (i + 5))
              · rw [if_pos c] at go
                refine ifT (by rw [← Bool.decide_or, decide_eq_true c]) ?_
                have z : ErrAt C H E (i + 5) := q0 _ (hr0.trans go.symm)
                exact ⟨_, rfl, _, _, rfl, rfl, _, rfl, nat_log (i := i + 5) (by omega), (z.same s05).here⟩
              · rw [if_neg c] at go
                refine ifF (by rw [← Bool.decide_or, decide_eq_false c]) ?_
                refine ⟨_, rfl, _, rfl, _, _, rfl, rfl, _, rfl, x, n, ws, i + 6, names, rfl, ws_same s05 hw, by omega, sqL_same s05 hn, hnl, ?_⟩
                generalize hra : readNeeds ws (i + 6) names = ra at go ⊢
                cases ra with
                | error e =>
                  have z : ErrAt C H E e := q0 _ (hr0.trans go.symm)
                  exact z.same s05
                | ok r =>
                  intro p1 v1 H6 s6 ep1 m1
                  have far1 := needs_far hra
                  obtain ⟨G1, rG1, _, d1⟩ := join0 (reg0 (ex := [])) s05 s6 m1
                  have s06 := s05.trans s6
                  refine ⟨p1, _, rfl, .inl (.inl ep1), rfl, v1, _, rfl, _, _, rfl, rfl, ?_⟩
                  refine ⟨_, rfl, _, rfl, _, rfl, x, g, ws, r.2, "takes", goods, rfl, ws_same s06 hw, by omega, sqL_same s06 hg, hgl, ?_⟩
                  dsimp only at go
                  generalize hrb : readAmounts ws r.2 "takes" goods = rb at go ⊢
                  cases rb with
                  | error e =>
                    have z : ErrAt C H E e := q0 _ (hr0.trans go.symm)
                    exact z.same s06
                  | ok r2 =>
                    intro p2 v2 H7 s7 ep2 m2
                    have far2 := amounts_far hrb
                    obtain ⟨G2, rG2, sg2, d2⟩ := join0 rG1 s06 s7 m2
                    have s07 := s06.trans s7
                    refine ⟨p2, _, rfl, .inl (.inl ep2), rfl, v2, _, rfl, _, _, rfl, rfl, ?_⟩
                    refine ⟨_, rfl, _, rfl, _, rfl, x, g, ws, r2.2, "gives", goods, rfl, ws_same s07 hw, by omega, sqL_same s07 hg, hgl, ?_⟩
                    dsimp only at go
                    generalize hrc : readAmounts ws r2.2 "gives" goods = rc at go ⊢
                    cases rc with
                    | error e =>
                      have z : ErrAt C H E e := q0 _ (hr0.trans go.symm)
                      exact z.same s07
                    | ok r3 =>
                      intro p3 v3 H8 s8 ep3 m3
                      obtain ⟨G3, rG3, sg3, d3⟩ := join0 rG2 s07 s8 m3
                      have s08 := s07.trans s8
                      refine ⟨p3, _, rfl, .inl (.inl ep3), rfl, v3, _, rfl, _, _, rfl, rfl, ?_⟩
                      refine ⟨_, rfl, _, rfl, _, rfl, _, rfl, _, rfl, _, rfl, (by show 6 ≤ sizeLine; omega), fun t1 ht1 => ?_⟩
                      refine ⟨_, rfl, (by show 2 ≤ sizeLine; omega), fun p hp => ?_⟩
                      have Gt : G3 t1 = none := by
                        cases e : G3 t1 with
                        | none => rfl
                        | some o =>
                          have z := rG3.sub t1 o e
                          rw [ht1] at z
                          cases z
                      have dd : DpAll K G3 [.str (wordAt ws (i + 1)), .int (numOf (wordAt ws (i + 3)) : Nat), .int (numOf (wordAt ws (i + 5)) : Nat), v1, v2, v3] [.str (wordAt ws (i + 1)), .int (numOf (wordAt ws (i + 3)) : Nat), .int (numOf (wordAt ws (i + 5)) : Nat), .list (natD r.1), .list (amtD r2.1), .list (amtD r3.1)] :=
                        .cons (.str _) (.cons (.int _) (.cons (.int _) (.cons (dp_same (sg2.trans sg3) d1) (.cons (dp_same sg3 d2) (.cons d3 .nil)))))
                      have fin := q0 _ (hr0.trans go.symm)
                      refine fin p (.ref t1) _ ((s08.trans (same_upd ht1)).trans (same_upd hp)) upd_same ⟨_, ((rG3.add s08 ht1 (fun _ h => by cases h)).more (same_upd hp)), .tup (.inl (.inl upd_same)) (dpa_same (same_upd Gt) dd)⟩
            · rw [if_neg (by rw [hn5]; decide)] at go
              have z : ErrAt C H E (i + 5) := q0 _ (hr0.trans go.symm)
              exact z.same s03
          · rw [if_neg e4] at go
            have z : ErrAt C H E (i + 4) := q0 _ (hr0.trans go.symm)
            exact z.same s03
        · rw [if_neg (by rw [hn3]; decide)] at go
          have z : ErrAt C H E (i + 3) := q0 _ (hr0.trans go.symm)
          exact z.same s1
      · rw [if_neg e2] at go
        have z : ErrAt C H E (i + 2) := q0 _ (hr0.trans go.symm)
        exact z.same s1
    · rw [if_neg (by rw [hn1]; decide)] at go
      have z : ErrAt C H E (i + 1) := q0 _ (hr0.trans go.symm)
      exact z
end

/-! ### list.remove of a pair of ints -/
end NG
namespace L2
open PySem PySem.Spec PyProof.Rows
def isPr (H : Hp) (k : Int × Int) (y : Value) : Bool := match y with
  | .ref a => (match H a with
    | some (.tup [.int p, .int q]) => p == k.1 && q == k.2
    | _ => false)
  | _ => false
theorem isPr_at {H : Hp} {k p : Int × Int} {a : Addr} (h : H a = some (.tup [.int p.1, .int p.2])) : isPr H k (.ref a) = (p.1 == k.1 && p.2 == k.2) := by
  simp only [isPr, h]
/-- as: the tuples' places, ps: what they hold -/
def PairsAt (H : Hp) (as : List Addr) (ps : List (Int × Int)) : Prop := as.length = ps.length ∧ ∀ (i : Nat) (a : Addr), as[i]? = some a → ∃ p : Int × Int, ps[i]? = some p ∧ H a = some (.tup [.int p.1, .int p.2])
theorem refs_vals : ∀ {as : List Addr} {us : List Value}, Vals (as.map V.ref) us → us = as.map Value.ref
  | [], _, .nil => rfl
  | a :: as, _, .cons r t => by
    obtain rfl := (show _ = Value.ref a from r)
    rw [refs_vals (as := as) t]
    rfl
theorem eqv_pair (p q k l : Int) : PyData.eqv (.tuple [.int p, .int q]) (.tuple [.int k, .int l]) = (p == k && q == l) := by
  simp [PyData.eqv, PyData.eqvAll]
section
variable {X : Cx}
def rRemP : V → List V → Hp → VK → Prop := fun x xs H Q => ∃ (l t : Addr) (as : List Addr) (ps : List (Int × Int)) (k : Int × Int) (j : Nat), x = .ref l ∧ xs = [.ref t] ∧ H l = some (.lst (as.map V.ref)) ∧ PairsAt H as ps ∧ H t = some (.tup [.int k.1, .int k.2]) ∧
  ps[j]? = some k ∧ (∀ m : Nat, m < j → ps[m]? ≠ some k) ∧ Q .non (upd H l (.lst ((as.eraseIdx j).map V.ref)))
theorem mt_removeP (hu : X.A.units + 64 < cLine) : MtM X "list.remove" rRemP := by
  intro pins s σ H x xs v us Q I rx rxs h
  obtain ⟨l, t, as, ps, k, j, rfl, rfl, hH, ⟨hlen, hp⟩, ht, hj, hno, q⟩ := h
  cases rx
  obtain ⟨u, rfl, ru⟩ := rxs.one
  cases (show u = Value.ref t from ru)
  obtain ⟨z, its, n, r, hl, e⟩ := I.lstM hH
  have hits := refs_vals r
  rw [List.length_map] at hl z
  have hjn : j < as.length := by
    have := (List.getElem?_eq_some_iff.mp hj).1
    omega
  have hjl : j < its.toArray.size := by rw [List.size_toArray]; omega
  obtain ⟨bt, rt⟩ := Dp.reads I (.tuple [.int k.1, .int k.2]) (.ref t) (.ref t) (.tup (.inl (.inl ht)) (.cons (.int _) (.cons (.int _) .nil))) rfl
  have at_ : ∀ i, i < as.length → ∃ (a : Addr) (p : Int × Int), as[i]? = some a ∧ its[i]? = some (.ref a) ∧ ps[i]? = some p ∧ H a = some (.tup [.int p.1, .int p.2]) := by
    intro i hi
    obtain ⟨p, h1, h2⟩ := hp i as[i] (List.getElem?_eq_getElem hi)
    exact ⟨as[i], p, List.getElem?_eq_getElem hi, by rw [hits, List.getElem?_map, List.getElem?_eq_getElem hi]; rfl, h1, h2⟩
  refine call_meets PySem.F.slot_list_remove ⟨_, e, rfl⟩ PySem.F.entry_list_remove (PySem.F.args_list_remove_2 _ _)
    (SeqAt.list_removeAt l its.toArray n none #[] (.ref t) (isPr H k) j hjl ?_ ?_ (by rw [List.size_toArray]; omega)) ⟨e, fun y hy => ?_, ?_⟩
  · obtain ⟨a, p, h1, h2, h3, h4⟩ := at_ j hjn
    obtain ⟨g1, g2⟩ := List.getElem?_eq_some_iff.mp h2
    have e1 : its.toArray[j] = .ref a := by simpa using g2
    obtain rfl : p = k := Option.some.inj (h3.symm.trans hj)
    rw [e1]
    rw [isPr_at h4]
    show (p.1 == p.1 && p.2 == p.2) = true
    rw [beq_self_eq_true, beq_self_eq_true]
    rfl
  · intro m hm hmj
    obtain ⟨a, p, h1, h2, h3, h4⟩ := at_ m (by omega)
    obtain ⟨g1, g2⟩ := List.getElem?_eq_some_iff.mp h2
    have e1 : its.toArray[m] = .ref a := by simpa using g2
    rw [e1]
    rw [isPr_at h4]
    show (p.1 == k.1 && p.2 == k.2) = false
    have ne : p ≠ k := fun z => hno m hmj (by rw [h3, z])
    cases e1 : p.1 == k.1 with
    | false => rfl
    | true =>
      cases e2 : p.2 == k.2 with
      | false => rfl
      | true => exact absurd (Prod.ext (eq_of_beq e1) (eq_of_beq e2)) ne
  · have hy2 : y ∈ its := by simpa using hy
    obtain ⟨i, hi, rfl⟩ := List.getElem_of_mem hy2
    obtain ⟨a, p, h1, h2, h3, h4⟩ := at_ i (by omega)
    obtain ⟨g1, g2⟩ := List.getElem?_eq_some_iff.mp h2
    rw [g2]
    obtain ⟨ba, ra⟩ := Dp.reads I (.tuple [.int p.1, .int p.2]) (.ref a) (.ref a) (.tup (.inl (.inl h4)) (.cons (.int _) (.cons (.int _) .nil))) rfl
    have ee : isPr H k (.ref a) = PyData.eqv (.tuple [.int p.1, .int p.2]) (.tuple [.int k.1, .int k.2]) := by
      rw [eqv_pair, isPr_at h4]
    rw [ee]
    refine SeqAt.eqAt_reads _ _ _ _ _ _ _ _ ra rt (by rfl) (by rfl) ?_
    have hd : X.A.in1.units = X.A.units + 1 := Around.in1_units X.A
    show X.A.in1.units + min 1 1 < cLine
    rw [hd]
    omega
  · have rr := r.eraseIdx j
    have er : ∀ (l : List Addr) (j : Nat), (l.map V.ref).eraseIdx j = (l.eraseIdx j).map V.ref := fun l j => NG.er_map l j
    rw [er] at rr
    refine ⟨.non, _, I.lset (its' := its.eraseIdx j) (t' := s.toks) hH e ?_ rr ?_, rfl, q⟩
    · show its.toArray.eraseIdxIfInBounds j = (its.eraseIdx j).toArray
      rw [List.eraseIdxIfInBounds_toArray]
    · have z2 := List.length_eraseIdx_le as j
      rw [List.length_map]
      omega
end
end L2
namespace NG
open PySem PySem.Spec PyProof.Rows L2

/-! ### short readings -/
/-- small side conditions -/
local macro_rules | `(tactic| walk_at "sd") => `(tactic| (first
  | omega
  | assumption
  | rfl
  | decide
  | exact .inr ⟨by decide, by decide⟩
  | exact .inl ⟨by decide, by decide⟩
  | exact ⟨by first | assumption | decide | omega, by first | assumption | decide | omega⟩
  | exact ⟨by decide, by decide, by decide⟩))
/-- reads on while what is asked is plain: a slot, two ints, an item at a written place, a test's answer -/
local macro_rules | `(tactic| walk_at "rd") => `(tactic| repeat (first
  | refine ⟨_, rfl, ?_⟩
  | refine ⟨_, _, rfl, rfl, ?_⟩
  | refine ⟨_, _, _, _, rfl, rfl, (by first | assumption | exact upd_same | exact .inl (.inl upd_same)), (by rfl), ?_⟩
  | refine ⟨_, _, rfl, .inl (by first | assumption | exact .inl (.inl upd_same)), ?_⟩
  | refine ⟨_, _, rfl, .inr (by first | assumption | exact .inl (.inl upd_same)), ?_⟩
  | refine ⟨_, _, _, _, _, rfl, (by first | assumption | exact upd_same), (by assumption), (by assumption), (by rfl), ?_⟩
  | refine ⟨_, _, _, _, rfl, (by first | assumption | exact upd_same), (by assumption), (by assumption), lt1000 (by rfl), ?_⟩
  | refine .inl ⟨_, rfl, ?_⟩
  | refine And.intro (by walk_at "sd") ?_))
/-- isinstance of a value whose type is known, by a built-in class -/
local macro_rules | `(tactic| walk_at "isi") => `(tactic| first
  | refine ⟨_, _, _, _, true, rfl, .ty _, (by assumption), kit_ty (by decide +kernel), ?_⟩
  | refine ⟨_, _, _, _, false, rfl, .ty _, (by assumption), kit_ty (by decide +kernel), ?_⟩)
/-- as rd; and where a test's answer is known -/
local macro_rules | `(tactic| walk_at "go") => `(tactic| repeat (first
  | refine ⟨_, rfl, ?_⟩
  | refine ⟨_, _, rfl, rfl, ?_⟩
  | refine ⟨_, _, _, _, rfl, rfl, (by first | assumption | exact upd_same | exact .inl (.inl upd_same)), (by rfl), ?_⟩
  | refine ⟨_, _, rfl, .inl (by first | assumption | exact .inl (.inl upd_same)), ?_⟩
  | refine ⟨_, _, rfl, .inr (by first | assumption | exact .inl (.inl upd_same)), ?_⟩
  | refine ⟨_, _, _, _, _, rfl, (by first | assumption | exact upd_same), (by assumption), (by assumption), (by rfl), ?_⟩
  | refine ⟨_, _, _, _, rfl, (by first | assumption | exact upd_same), (by assumption), (by assumption), lt1000 (by rfl), ?_⟩
  | refine .inl ⟨_, rfl, ?_⟩
  | walk_at "isi"
  | refine iteT ?_
  | refine iteF ?_
  | refine And.intro (by walk_at "sd") ?_))

/-! ### house: talks -/
def rowOf (n a : Nat) : List (Nat × Nat) := (List.range (n - (a + 1))).map fun d => (a, a + 1 + d)
def preOf (n i : Nat) : List (Nat × Nat) := (List.range i).flatMap (rowOf n)
def talksGo (ws names : List Str) : Nat → List (Nat × Nat) → List (Nat × Nat) → Nat → Except Nat (List (Nat × Nat) × Nat)
  | 0, _, acc, i => .ok (acc, i)
  | n + 1, left, acc, i => if wordAt ws i = "talk" then
      (match oneOf ws (i + 1) names (left.map (·.1)) with
        | none => .error (i + 1)
        | some a => (match oneOf ws (i + 2) names ((left.filter fun p => decide (p.1 = a)).map (·.2)) with
          | none => .error (i + 2)
          | some b => talksGo ws names n (left.eraseIdx (left.idxOf (a, b))) (acc ++ [(a, b)]) (i + 3)))
    else .ok (acc, i)
def readTalks (ws : List Str) (i : Nat) (names : List Str) : Except Nat (List (Nat × Nat) × Nat) := talksGo ws names (preOf names.length names.length).length (preOf names.length names.length) [] i
def spReadTalks (K : PySem.W.Frag) (C : Addr) : Sp := fun vs H Q E => ∃ (w g : Addr) (ws : List Str) (i : Nat) (names : List Str), vs = [.ref w, .int (i : Nat), .ref g] ∧ Ws K H w ws ∧ i ≤ 200000 ∧ SqL K H g (names.map V.str) ∧ names.length ≤ 50 ∧
  Reads2 K C H Q E ((readTalks ws i names).map fun r => (.list (amtD r.1), r.2))
theorem preOf_succ (n i : Nat) : preOf n (i + 1) = preOf n i ++ rowOf n i := by
  unfold preOf
  rw [List.range_succ, List.flatMap_append]
  simp
theorem row_len (n a : Nat) : (rowOf n a).length = n - (a + 1) := by
  unfold rowOf
  rw [List.length_map, List.length_range]
theorem pre_len (n : Nat) : ∀ i, (preOf n i).length ≤ i * n
  | 0 => by simp [preOf]
  | i + 1 => by
    have ih := pre_len n i
    rw [preOf_succ, List.length_append, row_len, Nat.add_mul, Nat.one_mul]
    omega
theorem pre_ok (n : Nat) : ∀ i, i ≤ n → ∀ p ∈ preOf n i, p.1 < n ∧ p.2 < n
  | 0, _ => by simp [preOf]
  | i + 1, h => by
    intro p hp
    rw [preOf_succ, List.mem_append] at hp
    rcases hp with hp | hp
    · exact pre_ok n i (by omega) p hp
    · unfold rowOf at hp
      obtain ⟨d, hd, rfl⟩ := List.mem_map.mp hp
      have := List.mem_range.mp hd
      exact ⟨by show i < n; omega, by show i + 1 + d < n; omega⟩
def prI (l : List (Nat × Nat)) : List (Int × Int) := l.map fun p => ((p.1 : Int), (p.2 : Int))
theorem pairs_same {H H' : Hp} {as : List Addr} {ps : List (Int × Int)} (e : Same H H') (h : PairsAt H as ps) : PairsAt H' as ps :=
  ⟨h.1, fun i a ha => by
    obtain ⟨p, h1, h2⟩ := h.2 i a ha
    exact ⟨p, h1, e _ _ h2⟩⟩
theorem pairs_upd {H : Hp} {as : List Addr} {ps : List (Int × Int)} {M : Addr} {us : List V} {o : HO} (h : PairsAt H as ps) (hM : H M = some (.lst us)) : PairsAt (upd H M o) as ps :=
  ⟨h.1, fun i a ha => by
    obtain ⟨p, h1, h2⟩ := h.2 i a ha
    refine ⟨p, h1, ?_⟩
    have n : a ≠ M := fun z => by
      rw [z, hM] at h2
      cases h2
    rw [upd_ne n]
    exact h2⟩
theorem pairs_snoc {H : Hp} {as : List Addr} {ps : List (Int × Int)} {t : Addr} {p : Int × Int} (h : PairsAt H as ps) (ht : H t = some (.tup [.int p.1, .int p.2])) : PairsAt H (as ++ [t]) (ps ++ [p]) := by
  refine ⟨by rw [List.length_append, List.length_append, h.1]; rfl, fun i a ha => ?_⟩
  by_cases c : i < as.length
  · rw [List.getElem?_append_left c] at ha
    obtain ⟨q, h1, h2⟩ := h.2 i a ha
    exact ⟨q, by rw [List.getElem?_append_left (by rw [← h.1]; exact c)]; exact h1, h2⟩
  · rw [List.getElem?_append_right (by omega)] at ha
    have z : i - as.length = 0 := by
      have := (List.getElem?_eq_some_iff.mp ha).1
      simp at this
      omega
    rw [z] at ha
    have e : t = a := Option.some.inj ha
    subst e
    refine ⟨p, ?_, ht⟩
    rw [List.getElem?_append_right (by rw [← h.1]; omega), ← h.1, z]
    rfl
theorem pairs_erase {H : Hp} {as : List Addr} {ps : List (Int × Int)} (h : PairsAt H as ps) (j : Nat) : PairsAt H (as.eraseIdx j) (ps.eraseIdx j) := by
  refine ⟨by rw [List.length_eraseIdx, List.length_eraseIdx, h.1], fun i a ha => ?_⟩
  rw [List.getElem?_eraseIdx] at ha
  rw [List.getElem?_eraseIdx]
  split at ha
  · obtain ⟨p, h1, h2⟩ := h.2 i a ha
    exact ⟨p, by rw [if_pos (by assumption)]; exact h1, h2⟩
  · obtain ⟨p, h1, h2⟩ := h.2 (i + 1) a ha
    exact ⟨p, by rw [if_neg (by assumption)]; exact h1, h2⟩
theorem yes_of {σ : L2.St} {H : Hp} {A B : Hp → Prop} (h : A H) : tYes σ H fun b H3 => if b = true then A H3 else B H3 := by
  show if true = true then A H else B H
  rw [if_pos rfl]
  exact h
/-- a comprehension with two fors over ranges: the outer turns -/
theorem lc2_out {wi1 : TI} {g g1 : TG} {tt tt1 : TT} {te : TE} {vs vs1 : List Nat} {σ : L2.St} {H1 : Hp} {D : Addr} {Qd : Hp → Prop} {lo : Int} {n : Nat} (Pv : Nat → Hp → Prop) (h0 : Pv 0 (upd H1 D (.lst [])))
    (hs : ∀ i H, i < n → Pv i H → g (.int (lo + (i : Nat))) (wipe σ vs) H fun σ2 H2 => wipe σ2 vs = wipe σ vs ∧ tt σ2 H2 fun b H3 =>
      if b = true then wi1 σ2 H3 fun J1 H4 => ∃ W1 : Nat → Nat → Hp → Prop, (∃ m, W1 0 m H4) ∧ ∀ j k H, W1 j k H →
        (J1.stop j H ∧ Pv (i + 1) H) ∨ (J1.go j H ∧ ∃ Nx1 : Hp → Prop, (∀ H', Nx1 H' → ∃ k', k' < k ∧ W1 (j + 1) k' H') ∧ ∀ x H', J1.yld j H x H' → g1 x (wipe σ2 vs1) H' fun σ3 H5 => wipe σ3 vs1 = wipe σ2 vs1 ∧ tt1 σ3 H5 fun b H6 =>
          if b = true then te σ3 H6 fun y H7 => ∃ acc, H7 D = some (.lst acc) ∧ acc.length < sizeLine ∧ Nx1 (upd H7 D (.lst (acc ++ [y]))) else Nx1 H6)
      else Pv (i + 1) H3) (hd : ∀ H, Pv n H → Qd H) :
    ∃ W : Nat → Nat → Hp → Prop, (∃ m, W 0 m (upd H1 D (.lst []))) ∧ ∀ i m H, W i m H →
      ((Itr lo n).stop i H ∧ Qd H) ∨ ((Itr lo n).go i H ∧ ∃ Nx : Hp → Prop, (∀ H', Nx H' → ∃ m', m' < m ∧ W (i + 1) m' H') ∧ ∀ x H', (Itr lo n).yld i H x H' → g x (wipe σ vs) H' fun σ2 H2 => wipe σ2 vs = wipe σ vs ∧ tt σ2 H2 fun b H3 =>
        if b = true then wi1 σ2 H3 fun J1 H4 => ∃ W1 : Nat → Nat → Hp → Prop, (∃ m, W1 0 m H4) ∧ ∀ j k H, W1 j k H →
          (J1.stop j H ∧ Nx H) ∨ (J1.go j H ∧ ∃ Nx1 : Hp → Prop, (∀ H', Nx1 H' → ∃ k', k' < k ∧ W1 (j + 1) k' H') ∧ ∀ x H', J1.yld j H x H' → g1 x (wipe σ2 vs1) H' fun σ3 H5 => wipe σ3 vs1 = wipe σ2 vs1 ∧ tt1 σ3 H5 fun b H6 =>
            if b = true then te σ3 H6 fun y H7 => ∃ acc, H7 D = some (.lst acc) ∧ acc.length < sizeLine ∧ Nx1 (upd H7 D (.lst (acc ++ [y]))) else Nx1 H6)
        else Nx H3) := by
  refine ⟨fun i m H => m = n - i ∧ i ≤ n ∧ Pv i H, ⟨n, by omega, Nat.zero_le _, h0⟩, ?_⟩
  rintro i m H ⟨rfl, hi, p⟩
  by_cases hlt : i < n
  · refine .inr ⟨hlt, Pv (i + 1), fun H' p' => ⟨n - (i + 1), by omega, rfl, hlt, p'⟩, fun x H' y => ?_⟩
    obtain ⟨e1, e2⟩ := y
    subst e1
    subst e2
    exact hs i _ hlt p
  · have e : i = n := by omega
    subst e
    exact .inl ⟨Nat.le_refl _, hd H p⟩
/-- the inner turns -/
theorem lc2_in {g1 : TG} {tt1 : TT} {te : TE} {vs1 : List Nat} {σ2 : L2.St} {H4 : Hp} {D : Addr} {Nx : Hp → Prop} {lo : Int} {n : Nat} (Pw : Nat → Hp → Prop) (h0 : Pw 0 H4)
    (hs : ∀ j H, j < n → Pw j H → g1 (.int (lo + (j : Nat))) (wipe σ2 vs1) H fun σ3 H5 => wipe σ3 vs1 = wipe σ2 vs1 ∧ tt1 σ3 H5 fun b H6 =>
      if b = true then te σ3 H6 fun y H7 => ∃ acc, H7 D = some (.lst acc) ∧ acc.length < sizeLine ∧ Pw (j + 1) (upd H7 D (.lst (acc ++ [y]))) else Pw (j + 1) H6) (hd : ∀ H, Pw n H → Nx H) :
    ∃ W1 : Nat → Nat → Hp → Prop, (∃ m, W1 0 m H4) ∧ ∀ j k H, W1 j k H →
      ((Itr lo n).stop j H ∧ Nx H) ∨ ((Itr lo n).go j H ∧ ∃ Nx1 : Hp → Prop, (∀ H', Nx1 H' → ∃ k', k' < k ∧ W1 (j + 1) k' H') ∧ ∀ x H', (Itr lo n).yld j H x H' → g1 x (wipe σ2 vs1) H' fun σ3 H5 => wipe σ3 vs1 = wipe σ2 vs1 ∧ tt1 σ3 H5 fun b H6 =>
        if b = true then te σ3 H6 fun y H7 => ∃ acc, H7 D = some (.lst acc) ∧ acc.length < sizeLine ∧ Nx1 (upd H7 D (.lst (acc ++ [y]))) else Nx1 H6) := by
  refine ⟨fun i m H => m = n - i ∧ i ≤ n ∧ Pw i H, ⟨n, by omega, Nat.zero_le _, h0⟩, ?_⟩
  rintro i m H ⟨rfl, hi, p⟩
  by_cases hlt : i < n
  · refine .inr ⟨hlt, Pw (i + 1), fun H' p' => ⟨n - (i + 1), by omega, rfl, hlt, p'⟩, fun x H' y => ?_⟩
    obtain ⟨e1, e2⟩ := y
    subst e1
    subst e2
    exact hs i _ hlt p
  · have e : i = n := by omega
    subst e
    exact .inl ⟨Nat.le_refl _, hd H p⟩
/-- at L a list of new tuples of the pairs ps -/
def PrList (L : Addr) (H0 : Hp) (ps : List (Nat × Nat)) (H : Hp) : Prop := ∃ as : List Addr, H L = some (.lst (as.map V.ref)) ∧ PairsAt H as (prI ps) ∧ Same H0 H
theorem idx_firstB {α : Type} [BEq α] [LawfulBEq α] : ∀ (l : List α) (k : α), k ∈ l → l.idxOf k < l.length ∧ l[l.idxOf k]? = some k ∧ ∀ m, m < l.idxOf k → l[m]? ≠ some k
  | [], k, h => by cases h
  | a :: l, k, h => by
    cases c : a == k with
    | true =>
      have c2 := eq_of_beq c
      subst c2
      have e : (a :: l).idxOf a = 0 := List.idxOf_cons_self
      rw [e]
      exact ⟨by rw [List.length_cons]; omega, rfl, fun m hm => absurd hm (Nat.not_lt_zero _)⟩
    | false =>
      have cn : a ≠ k := fun z => by
        rw [z, beq_self_eq_true] at c
        cases c
      have hk : k ∈ l := by
        rcases List.mem_cons.mp h with e | e
        · exact absurd e.symm cn
        · exact e
      obtain ⟨h1, h2, h3⟩ := idx_firstB l k hk
      have e : (a :: l).idxOf k = l.idxOf k + 1 := by
        rw [List.idxOf_cons, c]
        rfl
      rw [e]
      refine ⟨by rw [List.length_cons]; omega, by rw [List.getElem?_cons_succ]; exact h2, fun m hm => ?_⟩
      cases m with
      | zero => simpa using cn
      | succ m =>
        rw [List.getElem?_cons_succ]
        exact h3 m (by omega)
theorem prI_get (l : List (Nat × Nat)) (j : Nat) (a b : Nat) : (prI l)[j]? = some ((a : Int), (b : Int)) ↔ l[j]? = some (a, b) := by
  unfold prI
  rw [List.getElem?_map]
  cases l[j]? with
  | none => simp
  | some p =>
    obtain ⟨p1, p2⟩ := p
    simp
    omega
theorem row_get {n a d : Nat} (h : d < (rowOf n a).length) : (rowOf n a)[d] = (a, a + 1 + d) := by
  simp [rowOf]
/-- left.remove((a, b)): it is there -/
theorem rem_pair {l t : Addr} {as : List Addr} {ps : List (Nat × Nat)} {a b : Nat} {H : Hp} {Q : VK} (hl : H l = some (.lst (as.map V.ref))) (hp : PairsAt H as (prI ps)) (ht : H t = some (.tup [.int (a : Nat), .int (b : Nat)])) (hk : (a, b) ∈ ps)
    (q : Q .non (upd H l (.lst ((as.eraseIdx (ps.idxOf (a, b))).map V.ref)))) : rRemP (.ref l) [.ref t] H Q := by
  obtain ⟨h1, h2, h3⟩ := idx_firstB ps (a, b) hk
  exact ⟨l, t, as, prI ps, ((a : Int), (b : Int)), ps.idxOf (a, b), rfl, rfl, hl, hp, ht, (prI_get _ _ _ _).mpr h2, fun m hm z => h3 m hm ((prI_get _ _ _ _).mp z), q⟩
section
variable {P : Program} {w : World} {K : PySem.W.Frag} {mg : Str → Option Value} {base : Heap} {f kw C fI : Addr} {fd : FuncData}
theorem ok__read_talks (T : HT P K mg kw C fI) (M : MB mg) (F : FnP K "_read_talks" s__read_talks f fd) (C__word_is : Callee P w K mg base CX0 "_word_is" ["words", "at", "word"] 2 (spWordIs K))
    (C__one_of : Callee P w K mg base (L2.CX P w) "_one_of" ["words", "at", "names", "indexes"] 3 (spOneOf K C)) :
    FnOk P w K mg base (L2.CX P w) 4 f fd ["words", "at", "names"] (spReadTalks K C) := by
  refine F.ok sc__read_talks (fun vs H Q E h => ?_) (fun cdv A outer s H vs Q E hr h => ⟨_, (pss_cons (ps_set (i := 3) sc__read_talks.nd rfl (.inr rfl) (pe_callB call_len_seq (by rfl) M.len (by decide +kernel) (pa_cons (pv 2) pa_nil)))
  (pss_cons (ps_setLc2 (i := 4) (own := [("a", 8), ("b", 9)]) (vs1 := [9]) (g := gName 8) (g1 := gName 9) (by rfl) sc__read_talks.nd rfl rfl (sw_true rfl rfl rfl (by decide +kernel)) (pi_range1 (by rfl) M.range (pa_cons (pv 3) pa_nil)) (blkOk_by (own := [("a", 8), ("b", 9)]) (N := N__read_talks) (sc := defScope s__read_talks) (by decide +kernel)) (by decide) (fun _ _ _ _ _ => pg_name (i := 8) sc__read_talks.nd rfl (.inl rfl)) (fun _ _ _ _ _ => pts_nil) (fun _ _ _ _ _ => (pi_range2 (by rfl) M.range (pa_cons (pe_op op_add (pv 8) pe_int) (pa_cons (pv 3) pa_nil)))) (fun _ _ _ _ _ => pg_name (i := 9) sc__read_talks.nd rfl (.inl rfl)) (fun _ _ _ _ _ => pts_nil) (fun _ _ _ _ _ => (pe_tup (pa_cons (pv 8) (pa_cons (pv 9) pa_nil)))))
  (pss_cons (ps_set (i := 5) sc__read_talks.nd rfl (.inl rfl) (pe_lst pa_nil))
  (pss_cons (ps_while (passes_of rfl) (PW.pt (pw_and (pt_truth (pv 4) (by intro _; rfl)) (pw_and1 (pt_val (pe_callC C__word_is (hr.mono (by first | decide | exact Nat.le_refl _ | omega)) (by rfl) (pa_cons (pv 0) (pa_cons (pv 1) (pa_cons pe_str pa_nil)))))))) (pss_cons (ps_set (i := 6) sc__read_talks.nd rfl (.inr rfl) (pe_callX C__one_of (hr.mono (by first | decide | exact Nat.le_refl _ | omega)) (by rfl) (L2.passes_call (takes_of rfl rfl rfl rfl) (fun _ _ _ _ h => h)) (pa_cons (pv 0) (pa_cons (pe_op op_add (pv 1) pe_int) (pa_cons (pv 2) (pa_cons (pe_lc (own := [("pair", 10)]) (g := gName 10) (by rfl) sc__read_talks.nd (pi_list (pv 4)) (blkOk_by (own := [("pair", 10)]) (N := N__read_talks) (sc := defScope s__read_talks) (by decide +kernel)) (fun _ _ _ _ _ => pg_name (i := 10) sc__read_talks.nd rfl (.inl rfl)) (fun _ _ _ _ _ => pts_nil) (fun _ _ _ _ _ => (pe_ix (show IxR _ (rIxT K) from ix_tup) (pv 10) pe_int (fun _ _ => rfl)))) pa_nil))))))
  (pss_cons (ps_set (i := 7) sc__read_talks.nd rfl (.inl rfl) (pe_callX C__one_of (hr.mono (by first | decide | exact Nat.le_refl _ | omega)) (by rfl) (L2.passes_call (takes_of rfl rfl rfl rfl) (fun _ _ _ _ h => h)) (pa_cons (pv 0) (pa_cons (pe_op op_add (pv 1) pe_int) (pa_cons (pv 2) (pa_cons (pe_lc (own := [("pair", 10)]) (g := gName 10) (by rfl) sc__read_talks.nd (pi_list (pv 4)) (blkOk_by (own := [("pair", 10)]) (N := N__read_talks) (sc := defScope s__read_talks) (by decide +kernel)) (fun _ _ _ _ _ => pg_name (i := 10) sc__read_talks.nd rfl (.inl rfl)) (fun _ _ _ _ _ => pts_one (pt_cmpR op_eq (pe_ix (show IxR _ (rIxT K) from ix_tup) (pv 10) pe_int (fun _ _ => rfl)) (pv 6) (nomark _))) (fun _ _ _ _ _ => (pe_ix (show IxR _ (rIxT K) from ix_tup) (pv 10) pe_int (fun _ _ => rfl)))) pa_nil))))))
  (pss_cons (ps_expr (pe_bm PySem.F.plainAttrs_list PySem.F.slot_list_append PySem.F.type_list_append mt_append (pv 5) (pa_cons (pe_tup (pa_cons (pv 6) (pa_cons (pv 7) pa_nil))) pa_nil)))
  (pss_cons (ps_expr (pe_bm PySem.F.plainAttrs_list PySem.F.slot_list_remove PySem.F.type_list_remove (mt_removeP hr.units) (pv 4) (pa_cons (pe_tup (pa_cons (pv 6) (pa_cons (pv 7) pa_nil))) pa_nil)))
  (pss_one (ps_aug (i := 1) sc__read_talks.nd rfl (.inl rfl) pe_int ip_add)))))))
  (pss_one (ps_ret (pe_tup (pa_cons (pv 5) (pa_cons (pv 1) pa_nil))))))))), ?_⟩)
  · obtain ⟨x, g, ws, i, names, rfl, _⟩ := h
    rfl
  · obtain ⟨x, g, ws, i, names, rfl, hw, hi, hg, hl, q⟩ := h
    have hs := sizeLine_eq
    have q0 : ∀ r, readTalks ws i names = r → Reads2 K C H Q E (r.map fun r => (.list (amtD r.1), r.2)) := fun r e => by
      rw [← e]
      exact q
    refine ⟨_, rfl, _, _, rfl, .inl hg, ?_⟩
    rw [List.length_map]
    refine ⟨_, rfl, (names.length : Nat), rfl, by omega, by omega, fun L hL => ?_⟩
    refine lc2_out (lo := 0) (n := ((names.length : Nat) : Int).toNat) (fun i H' => PrList L H (preOf names.length i) H') ⟨[], upd_same, ⟨rfl, fun i a h => by cases h⟩, same_upd hL⟩ (fun i H1 hi1 hp => ?_) (fun H1 hp => ?_)
    · have hin : i < names.length := by omega
      refine ⟨rfl, yes_of ?_⟩
      refine ⟨_, rfl, _, _, rfl, rfl, _, rfl, 0 + (i : Int) + 1, (names.length : Nat), rfl, ⟨by omega, by omega, by omega, by omega⟩, ?_⟩
      dsimp only
      refine lc2_in (tt1 := tYes) (lo := 0 + (i : Int) + 1) (n := (((names.length : Nat) : Int) - (0 + (i : Int) + 1)).toNat) (fun j H' => PrList L H (preOf names.length i ++ (rowOf names.length i).take j) H') ?_ (fun j H2 hj hp2 => ?_) (fun H2 hp2 => ?_)
      · rw [List.take_zero, List.append_nil]
        exact hp
      · obtain ⟨as, e1, e2, e3⟩ := hp2
        have hjl : j < (rowOf names.length i).length := by
          rw [row_len]
          omega
        have hal : as.length ≤ 3000 := by
          have z := e2.1
          unfold prI at z
          rw [List.length_map, List.length_append, List.length_take, row_len] at z
          have z2 := pre_len names.length i
          have z3 : i * names.length ≤ 50 * 50 := Nat.mul_le_mul (by omega) hl
          omega
        refine ⟨rfl, yes_of ?_⟩
        refine ⟨_, rfl, _, rfl, (by show 2 ≤ sizeLine; omega), fun t ht => ?_⟩
        have tL : L ≠ t := ne_of_none e1 ht
        refine ⟨as.map V.ref, by rw [upd_ne tL]; exact e1, by rw [List.length_map]; omega, ?_⟩
        refine ⟨as ++ [t], by rw [upd_same, List.map_append]; rfl, ?_, same_upd_new (e3.trans (same_upd ht)) hL⟩
        rw [List.take_succ_eq_append_getElem hjl, row_get hjl, ← List.append_assoc]
        have ep : prI ((preOf names.length i ++ (rowOf names.length i).take j) ++ [(i, i + 1 + j)]) = prI (preOf names.length i ++ (rowOf names.length i).take j) ++ [(((i : Nat) : Int), ((i + 1 + j : Nat) : Int))] := by
          unfold prI
          rw [List.map_append]
          rfl
        rw [ep]
        refine pairs_snoc (pairs_upd (pairs_same (same_upd ht) e2) (by rw [upd_ne tL]; exact e1)) ?_
        rw [upd_ne tL.symm, upd_same]
        have z1 : (0 + (i : Int)) = ((i : Nat) : Int) := by omega
        have z2 : (0 + (i : Int) + 1 + (j : Int)) = ((i + 1 + j : Nat) : Int) := by omega
        rw [z2]
        have z3 : V.int (0 + (i : Int)) = V.int ((i : Nat) : Int) := by rw [z1]
        exact congrArg (fun z => some (HO.tup [z, V.int ((i + 1 + j : Nat) : Int)])) z3
      · rw [preOf_succ]
        rw [List.take_of_length_le (by rw [row_len]; omega)] at hp2
        exact hp2
    · rw [Int.toNat_natCast] at hp
      obtain ⟨as0, eL0, pa0, sL0⟩ := hp
      refine ⟨(by show 0 ≤ sizeLine; omega), fun M hM => ?_⟩
      have hLM : L ≠ M := ne_of_none eL0 hM
      have hM0 : H M = none := by
        cases e : H M with
        | none => rfl
        | some o =>
          have z := sL0 _ _ e
          rw [hM] at z
          cases z
      have hpl : (preOf names.length names.length).length ≤ 2500 := by
        have z2 := pre_len names.length names.length
        have z3 : names.length * names.length ≤ 50 * 50 := Nat.mul_le_mul hl hl
        omega
      refine ⟨fun m σ H' => ∃ (left acc : List (Nat × Nat)) (j : Nat) (as : List Addr) (vs : List V) (G : Hp) (z1 z2 : Option V), left.length = m ∧ σ = [some (.ref x), some (.int (j : Nat)), some (.ref g), some (.int (names.length : Nat)), some (.ref L), some (.ref M), z1, z2, none, none, none] ∧ Same H H' ∧
        H' L = some (.lst (as.map V.ref)) ∧ PairsAt H' as (prI left) ∧ H' M = some (.lst vs) ∧ Reg H H' G [L, M] ∧ DpAll K G vs (amtD acc) ∧ (∀ p ∈ left, p.1 < names.length ∧ p.2 < names.length) ∧ acc.length + m ≤ 2500 ∧ j + 3 * m ≤ i + 7500 ∧ talksGo ws names m left acc j = readTalks ws i names,
        ⟨_, preOf names.length names.length, [], i, as0, [], hp0, none, none, rfl, rfl, sL0.trans (same_upd hM), by rw [upd_ne hLM]; exact eL0, pairs_same (same_upd hM) pa0, upd_same, reg0, .nil, pre_ok _ _ (Nat.le_refl _), by show 0 + _ ≤ _; omega, by omega, rfl⟩, ?_⟩
      rintro m σ H' ⟨left, acc, j, as, vs, G, z1, z2, hm, rfl, sm, eL, pa, eM, rG, dG, bk, bl, bj, go⟩
      have hvl : vs.length = acc.length := by
        have z := dpa_len dG
        unfold amtD at z
        rw [List.length_map] at z
        exact z
      have hal : as.length = left.length := by
        have z := pa.1
        unfold prI at z
        rw [List.length_map] at z
        exact z
      have fin : readTalks ws i names = .ok (acc, j) → tRet (tTup (tCons (tVar 5) (tCons (tVar 1) tNil))) { nx := fun x H' => Q V.non H', rt := Q } [some (.ref x), some (.int (j : Nat)), some (.ref g), some (.int (names.length : Nat)), some (.ref L), some (.ref M), z1, z2, none, none, none] H' := by
        intro e
        refine ⟨_, rfl, _, rfl, (by show 2 ≤ sizeLine; omega), fun p hp => ?_⟩
        exact q0 _ e p (.ref M) _ (sm.trans (same_upd hp)) upd_same ⟨upd G M (.lst vs), (rG.take hM0 eM (fun _ h => by cases h)).more (same_upd hp), .lst (.inl (.inl upd_same)) (dpa_same (same_upd (rG.out M (by simp))) dG)⟩
      refine tAnd_of (!left.isEmpty) (decide (wordAt ws j = "talk")) (fun Q' q' => ⟨_, rfl, _, .inl ⟨_, .inl (.inl eL), rfl⟩, ?_⟩) (fun hb Q' q' => ⟨_, rfl, _, rfl, x, ws, j, _, rfl, ws_same sm hw, by omega, _, rfl, q'⟩) ?_
      · rw [List.isEmpty_map, isEmpty_len hal]
        exact q'
      cases m with
      | zero =>
        have e4 : left = [] := List.length_eq_zero_iff.mp hm
        refine ifF ?_ (fin go.symm)
        rw [e4]
        rfl
      | succ n =>
        rw [talksGo] at go
        by_cases c : wordAt ws j = "talk"
        · rw [if_pos c] at go
          refine ifT (by
            rw [decide_eq_true c]
            cases left with
            | nil => cases hm
            | cons a l => rfl) ?_
          refine ⟨fun σ' H2 => ∃ m', m' < n + 1 ∧ ∃ (left acc : List (Nat × Nat)) (j : Nat) (as : List Addr) (vs : List V) (G : Hp) (z1 z2 : Option V), left.length = m' ∧ σ' = [some (.ref x), some (.int (j : Nat)), some (.ref g), some (.int (names.length : Nat)), some (.ref L), some (.ref M), z1, z2, none, none, none] ∧ Same H H2 ∧
            H2 L = some (.lst (as.map V.ref)) ∧ PairsAt H2 as (prI left) ∧ H2 M = some (.lst vs) ∧ Reg H H2 G [L, M] ∧ DpAll K G vs (amtD acc) ∧ (∀ p ∈ left, p.1 < names.length ∧ p.2 < names.length) ∧ acc.length + m' ≤ 2500 ∧ j + 3 * m' ≤ i + 7500 ∧ talksGo ws names m' left acc j = readTalks ws i names, fun _ _ h => h, ?_⟩
          have nLM : ∀ a ∈ [L, M], H' a ≠ none := by
            intro a ha z
            rcases List.mem_cons.mp ha with e | ha
            · rw [e, eL] at z
              cases z
            · rw [List.mem_singleton.mp ha, eM] at z
              cases z
          -- each item of left
          have item : ∀ (k : Nat) (y : V) (H2 : Hp), Same H' H2 → (as.map V.ref)[k]? = some y → ∃ (b : Addr) (p : Nat × Nat), y = .ref b ∧ left[k]? = some p ∧ H2 b = some (.tup [.int (p.1 : Nat), .int (p.2 : Nat)]) := by
            intro k y H2 s2 hy
            rw [List.getElem?_map] at hy
            cases e1 : as[k]? with
            | none =>
              rw [e1] at hy
              cases hy
            | some b =>
              rw [e1] at hy
              obtain ⟨p, h1, h2⟩ := pa.2 k b e1
              unfold prI at h1
              rw [List.getElem?_map] at h1
              cases e2 : left[k]? with
              | none =>
                rw [e2] at h1
                cases h1
              | some p' =>
                rw [e2] at h1
                have e3 := Option.some.inj h1
                subst e3
                exact ⟨b, p', (Option.some.inj hy).symm, rfl, s2 _ _ h2⟩
          refine ⟨_, rfl, _, rfl, _, _, rfl, rfl, _, rfl, _, rfl, L, rfl, ⟨_, .inl (.inl eL)⟩, fun D1 hD1 => ?_⟩
          have s1 : ∀ l : List V, Same H' (upd H' D1 (.lst l)) := fun l => same_upd hD1
          refine lc_list (K := K) (a := L) (xs := as.map V.ref) (fun k H2 => H2 = upd H' D1 (.lst (natV ((left.take k).map (·.1))))) rfl (fun k H2 _ e => by rw [e]; exact sqL_same (s1 _) (.inl (.inl eL))) (fun k y H2 hy e => ?_) (fun H2 e => ?_)
          · subst e
            obtain ⟨b, p, rfl, h2, h3⟩ := item k y _ (s1 _) hy
            refine ⟨rfl, yes_of ⟨_, rfl, b, _, 0, _, rfl, rfl, .inl (.inl h3), atI_nat (j := 0) rfl, _, upd_same, ?_, ?_⟩⟩
            · unfold natV
              rw [List.length_map, List.length_map, List.length_take]
              omega
            · rw [upd_upd]
              obtain ⟨hk, he⟩ := List.getElem?_eq_some_iff.mp h2
              rw [List.take_succ_eq_append_getElem hk, he, List.map_append]
              unfold natV
              rw [List.map_append]
              rfl
          · rw [List.length_map, hal, List.take_length] at e
            subst e
            refine ⟨x, g, D1, ws, j + 1, names, left.map (·.1), rfl, ws_same (sm.trans (s1 _)) hw, by omega, sqL_same (sm.trans (s1 _)) hg, .inl (.inl upd_same), ?_, by omega, fun a ha => ?_, fun ha => ?_⟩
            · intro k hk
              obtain ⟨p, hp, rfl⟩ := List.mem_map.mp hk
              exact (bk p hp).1
            · rw [ha] at go
              dsimp only at go
              have sA := s1 (natV (left.map (·.1)))
              generalize upd H' D1 (.lst (natV (left.map (·.1)))) = H1 at sA ⊢
              refine ⟨_, rfl, _, rfl, _, _, rfl, rfl, _, rfl, _, rfl, L, rfl, ⟨_, .inl (.inl (sA _ _ eL))⟩, fun D2 hD2 => ?_⟩
              have s2 : ∀ l : List V, Same H1 (upd H1 D2 (.lst l)) := fun l => same_upd hD2
              refine lc_list (K := K) (a := L) (xs := as.map V.ref) (fun k H2 => H2 = upd H1 D2 (.lst (natV (((left.take k).filter fun p => decide (p.1 = a)).map (·.2))))) rfl (fun k H2 _ e => by rw [e]; exact sqL_same (s2 _) (.inl (.inl (sA _ _ eL)))) (fun k y H2 hy e => ?_) (fun H2 e => ?_)
              · subst e
                obtain ⟨b, p, rfl, h2, h3⟩ := item k y _ (sA.trans (s2 _)) hy
                obtain ⟨hk, he⟩ := List.getElem?_eq_some_iff.mp h2
                refine ⟨rfl, ?_⟩
                refine ⟨_, rfl, b, _, 0, _, rfl, rfl, .inl (.inl h3), atI_nat (j := 0) rfl, _, rfl, rfl, _, rfl, ?_⟩
                by_cases cp : p.1 = a
                · refine ifT (decide_eq_true (by rw [cp])) ?_
                  refine ⟨_, rfl, b, _, 1, _, rfl, rfl, .inl (.inl h3), atI_nat (j := 1) rfl, _, upd_same, ?_, ?_⟩
                  · unfold natV
                    rw [List.length_map, List.length_map]
                    have z := List.length_filter_le (fun p : Nat × Nat => decide (p.1 = a)) (left.take k)
                    rw [List.length_take] at z
                    omega
                  · rw [upd_upd, List.take_succ_eq_append_getElem hk, he, List.filter_append, List.map_append]
                    have z : List.filter (fun p : Nat × Nat => decide (p.1 = a)) [p] = [p] := List.filter_cons_of_pos (decide_eq_true cp)
                    rw [z]
                    unfold natV
                    rw [List.map_append]
                    rfl
                · refine ifF (decide_eq_false fun z => cp (by
                    have z1 : (p.1 : Int) = (a : Int) := V.int.inj z
                    omega)) ?_
                  rw [List.take_succ_eq_append_getElem hk, he, List.filter_append]
                  have z : List.filter (fun p : Nat × Nat => decide (p.1 = a)) [p] = [] := List.filter_cons_of_neg (by rw [decide_eq_false cp]; decide)
                  rw [z, List.append_nil]
              · rw [List.length_map, hal, List.take_length] at e
                subst e
                have sB := s2 (natV ((left.filter fun p => decide (p.1 = a)).map (·.2)))
                refine ⟨x, g, D2, ws, j + 2, names, (left.filter fun p => decide (p.1 = a)).map (·.2), rfl, ws_same ((sm.trans sA).trans (s2 _)) hw, by omega, sqL_same ((sm.trans sA).trans (s2 _)) hg, .inl (.inl upd_same), ?_, by omega, fun b hb => ?_, fun hb => ?_⟩
                · intro k hk
                  obtain ⟨p, hp, rfl⟩ := List.mem_map.mp hk
                  exact (bk p (List.mem_filter.mp hp).1).2
                · rw [hb] at go
                  dsimp only at go
                  have hmem : (a, b) ∈ left := by
                    obtain ⟨p, hp, e2⟩ := List.mem_map.mp (List.mem_of_find?_eq_some hb)
                    obtain ⟨h1, h2⟩ := List.mem_filter.mp hp
                    have e1 : p.1 = a := of_decide_eq_true h2
                    have e3 : p = (a, b) := Prod.ext e1 e2
                    rw [← e3]
                    exact h1
                  generalize upd H1 D2 (.lst (natV ((left.filter fun p => decide (p.1 = a)).map (·.2)))) = H2 at sB ⊢
                  have sAB := sA.trans sB
                  have eL2 := sAB _ _ eL
                  have eM2 := sAB _ _ eM
                  have hLM2 : L ≠ M := hLM
                  refine ⟨_, rfl, tyL (.inl (.inl eM2)), _, rfl, _, rfl, (by show 2 ≤ sizeLine; omega), fun t ht => ?_⟩
                  dsimp only [tNil]
                  have tL : L ≠ t := ne_of_none eL2 ht
                  have tM : M ≠ t := ne_of_none eM2 ht
                  have eM3 : upd H2 t (.tup [.int (a : Nat), .int (b : Nat)]) M = some (.lst vs) := by
                    rw [upd_ne tM]
                    exact eM2
                  refine ⟨M, vs, _, rfl, rfl, eM3, by omega, ?_⟩
                  have eL4 : upd (upd H2 t (.tup [.int (a : Nat), .int (b : Nat)])) M (.lst (vs ++ [.ref t])) L = some (.lst (as.map V.ref)) := by
                    rw [upd_ne hLM, upd_ne tL]
                    exact eL2
                  have pa4 : PairsAt (upd (upd H2 t (.tup [.int (a : Nat), .int (b : Nat)])) M (.lst (vs ++ [.ref t]))) as (prI left) := pairs_upd (pairs_same (same_upd ht) (pairs_same sAB pa)) eM3
                  refine ⟨_, rfl, tyL (.inl (.inl eL4)), _, rfl, _, rfl, (by show 2 ≤ sizeLine; omega), fun t2 ht2 => ?_⟩
                  dsimp only [tNil]
                  have tL2 : L ≠ t2 := ne_of_none eL4 ht2
                  have tM2 : M ≠ t2 := ne_of_none upd_same ht2
                  have eL5 : upd (upd (upd H2 t (.tup [.int (a : Nat), .int (b : Nat)])) M (.lst (vs ++ [.ref t]))) t2 (.tup [.int (a : Nat), .int (b : Nat)]) L = some (.lst (as.map V.ref)) := by
                    rw [upd_ne tL2]
                    exact eL4
                  have pa5 := pairs_same (same_upd (o := .tup [.int (a : Nat), .int (b : Nat)]) ht2) pa4
                  refine rem_pair eL5 pa5 upd_same hmem ?_
                  have Gt : G t = none := by
                    cases e : G t with
                    | none => rfl
                    | some o =>
                      have z := sAB _ _ (rG.sub t o e)
                      rw [ht] at z
                      cases z
                  have nLM2 : ∀ c ∈ [L, M], H2 c ≠ none := by
                    intro c hc z
                    rcases List.mem_cons.mp hc with e | hc
                    · rw [e, eL2] at z
                      cases z
                    · rw [List.mem_singleton.mp hc, eM2] at z
                      cases z
                  have rr := ((((rG.more sAB).add (sm.trans sAB) (o := .tup [.int (a : Nat), .int (b : Nat)]) ht nLM2).put (a := M) (o := .lst (vs ++ [.ref t])) (by simp)).more (same_upd (o := .tup [.int (a : Nat), .int (b : Nat)]) ht2)).put (a := L) (o := .lst ((as.eraseIdx (left.idxOf (a, b))).map V.ref)) (by simp)
                  have hL0 : H L = none := hL
                  refine ⟨_, rfl, _, _, rfl, rfl, n, Nat.lt_succ_self _, left.eraseIdx (left.idxOf (a, b)), acc ++ [(a, b)], j + 3, as.eraseIdx (left.idxOf (a, b)), vs ++ [.ref t], _, _, _, ?_, rfl, ?_, upd_same, ?_, ?_, rr, ?_, fun p hp => bk p (List.mem_of_mem_eraseIdx hp), ?_, by omega, go⟩
                  · rw [List.length_eraseIdx_of_lt (idx_firstB _ _ hmem).1]
                    omega
                  · exact same_upd_new ((same_upd_new ((sm.trans sAB).trans (same_upd ht)) hM0).trans (same_upd ht2)) hL0
                  · have z := pairs_erase (pairs_upd pa5 (o := .lst ((as.eraseIdx (left.idxOf (a, b))).map V.ref)) eL5) (left.idxOf (a, b))
                    have z2 : (prI left).eraseIdx (left.idxOf (a, b)) = prI (left.eraseIdx (left.idxOf (a, b))) := er_map _ _
                    rw [z2] at z
                    exact z
                  · rw [upd_ne hLM.symm, upd_ne tM2, upd_same]
                  · have z : amtD (acc ++ [(a, b)]) = amtD acc ++ [.tuple [.int (a : Nat), .int (b : Nat)]] := by
                      unfold amtD
                      rw [List.map_append]
                      rfl
                    rw [z]
                    exact dpa_append (dpa_same (same_upd Gt) dG) (.cons (.tup (.inl (.inl upd_same)) (.cons (.int _) (.cons (.int _) .nil))) .nil)
                  · rw [List.length_append]
                    show _ + 1 + _ ≤ _
                    omega
                · rw [hb] at go
                  have z : ErrAt C H E (j + 2) := q0 _ go.symm
                  exact z.same ((sm.trans sA).trans (s2 _))
            · rw [ha] at go
              have z : ErrAt C H E (j + 1) := q0 _ go.symm
              exact z.same (sm.trans (s1 _))
        · rw [if_neg c] at go
          refine ifF ?_ (fin go.symm)
          rw [decide_eq_false c, Bool.and_false]
end

/-! ### house: the recipes' reader -/
theorem recipe_far {ws : List Str} {i : Nat} {taken goods names : List Str} {r : Reci × Nat} (h : readRecipe ws i taken goods names = .ok r) : r.2 ≤ i + 10 + 6 * goods.length := by
  unfold readRecipe at h
  split at h
  · split at h
    · split at h
      · split at h
        · split at h
          · split at h
            · cases h
            · split at h
              · cases h
              · rename_i r1 h1
                split at h
                · cases h
                · rename_i r2 h2
                  split at h
                  · cases h
                  · rename_i r3 h3
                    cases h
                    have f1 := needs_far h1
                    have f2 := amounts_far h2
                    have f3 := amounts_far h3
                    show r3.2 ≤ _
                    omega
          · cases h
        · cases h
      · cases h
    · cases h
  · cases h
def reciGo (ws goods names : List Str) : Nat → List Reci → Nat → Except Nat (List Reci × Nat)
  | 0, acc, i => .ok (acc, i)
  | n + 1, acc, i => if wordAt ws i = "recipe" then
      (match readRecipe ws i (acc.map (·.name)) goods names with
        | .ok r => reciGo ws goods names n (acc ++ [r.1]) r.2
        | .error e => .error e)
    else .ok (acc, i)
def readRecipes (ws : List Str) (i : Nat) (goods names : List Str) : Except Nat (List Reci × Nat) := reciGo ws goods names 3 [] i
def spReadRecipes (K : PySem.W.Frag) (C : Addr) : Sp := fun vs H Q E => ∃ (w g n : Addr) (ws : List Str) (i : Nat) (goods names : List Str), vs = [.ref w, .int (i : Nat), .ref g, .ref n] ∧ Ws K H w ws ∧ i ≤ 200000 ∧ SqL K H g (goods.map V.str) ∧ goods.length ≤ 1000 ∧
  SqL K H n (names.map V.str) ∧ names.length ≤ 1000 ∧ Reads2 K C H Q E ((readRecipes ws i goods names).map fun r => (.list (reciD r.1), r.2))
theorem reci_names (l : List Reci) : (reciD l).map nameD = (l.map (·.name)).map some := by
  unfold reciD
  rw [List.map_map, List.map_map]
  rfl
section
variable {P : Program} {w : World} {K : PySem.W.Frag} {mg : Str → Option Value} {base : Heap} {f kw C fI : Addr} {fd : FuncData}
theorem ok__read_recipes (T : HT P K mg kw C fI) (M : MB mg) (F : FnP K "_read_recipes" s__read_recipes f fd) (C__word_is : Callee P w K mg base CX0 "_word_is" ["words", "at", "word"] 2 (spWordIs K))
    (C__names_of : Callee P w K mg base CX0 "_names_of" ["parts"] 1 (spNamesOf K)) (C__read_recipe : Callee P w K mg base (L2.CX P w) "_read_recipe" ["words", "at", "taken", "goods", "names"] 5 (spReadRecipe K C)) :
    FnOk P w K mg base (L2.CX P w) 6 f fd ["words", "at", "goods", "names"] (spReadRecipes K C) := by
  obtain ⟨t8, g_MOST_RECIPES⟩ := T.i5
  have r_MOST_RECIPES : RelV (.int 3) (.int 3 t8) := ⟨_, rfl⟩
  refine F.ok sc__read_recipes (fun vs H Q E h => ?_) (fun cdv A outer s H vs Q E hr h => ⟨_, (pss_cons (ps_set (i := 4) sc__read_recipes.nd rfl (.inl rfl) (pe_lst pa_nil))
  (pss_cons (ps_while (passes_of rfl) (PW.pt (pw_and (pt_cmpR op_lt (pe_callB call_len_seq (by rfl) M.len (by decide +kernel) (pa_cons (pv 4) pa_nil)) (pe_glob (by rfl) g_MOST_RECIPES r_MOST_RECIPES) (nomark _)) (pw_and1 (pt_val (pe_callC C__word_is (hr.mono (by first | decide | exact Nat.le_refl _ | omega)) (by rfl) (pa_cons (pv 0) (pa_cons (pv 1) (pa_cons pe_str pa_nil)))))))) (pss_cons (ps_asg (pe_callX C__read_recipe (hr.mono (by first | decide | exact Nat.le_refl _ | omega)) (by rfl) (L2.passes_call (takes_of rfl rfl rfl rfl) (fun _ _ _ _ h => h)) (pa_cons (pv 0) (pa_cons (pv 1) (pa_cons (pe_callC C__names_of (hr.mono (by first | decide | exact Nat.le_refl _ | omega)) (by rfl) (pa_cons (pv 4) pa_nil)) (pa_cons (pv 2) (pa_cons (pv 3) pa_nil)))))) (pg_tup (by rfl) (pgs_cons (pg_name (i := 5) sc__read_recipes.nd rfl (.inl rfl)) (pgs_cons (pg_name (i := 1) sc__read_recipes.nd rfl (.inl rfl)) pgs_nil))))
  (pss_one (ps_expr (pe_bm PySem.F.plainAttrs_list PySem.F.slot_list_append PySem.F.type_list_append mt_append (pv 4) (pa_cons (pv 5) pa_nil))))))
  (pss_one (ps_ret (pe_tup (pa_cons (pv 4) (pa_cons (pv 1) pa_nil))))))), ?_⟩)
  · obtain ⟨x, g, n, ws, i, goods, names, rfl, _⟩ := h
    rfl
  · obtain ⟨x, g, nn, ws, i, goods, names, rfl, hw, hi, hg, hgl, hn, hnl, q⟩ := h
    have hs := sizeLine_eq
    have q0 : ∀ r, readRecipes ws i goods names = r → Reads2 K C H Q E (r.map fun r => (.list (reciD r.1), r.2)) := fun r e => by
      rw [← e]
      exact q
    refine ⟨(by show 0 ≤ sizeLine; omega), fun M hM => ?_⟩
    refine ⟨fun m σ H' => ∃ (acc : List Reci) (j : Nat) (vs : List V) (G : Hp) (z1 : Option V), acc.length + m = 3 ∧ σ = [some (.ref x), some (.int (j : Nat)), some (.ref g), some (.ref nn), some (.ref M), z1] ∧ Same H H' ∧ H' M = some (.lst vs) ∧ Reg H H' G [M] ∧ DpAll K G vs (reciD acc) ∧
        j + 7000 * m ≤ i + 21000 ∧ reciGo ws goods names m acc j = readRecipes ws i goods names,
      ⟨3, [], i, [], hp0, none, rfl, rfl, same_upd hM, upd_same, reg0, .nil, by omega, rfl⟩, ?_⟩
    rintro m σ H' ⟨acc, j, vs, G, z1, hm, rfl, sm, eM, rG, dG, bj, go⟩
    have hvl : vs.length = acc.length := by
      have z := dpa_len dG
      unfold reciD at z
      rw [List.length_map] at z
      exact z
    have fin : readRecipes ws i goods names = .ok (acc, j) → tRet (tTup (tCons (tVar 4) (tCons (tVar 1) tNil))) { nx := fun x H' => Q V.non H', rt := Q } [some (.ref x), some (.int (j : Nat)), some (.ref g), some (.ref nn), some (.ref M), z1] H' := by
      intro e
      refine ⟨_, rfl, _, rfl, (by show 2 ≤ sizeLine; omega), fun p hp => ?_⟩
      exact q0 _ e p (.ref M) _ (sm.trans (same_upd hp)) upd_same ⟨upd G M (.lst vs), (rG.take hM eM (fun _ h => by cases h)).more (same_upd hp), .lst (.inl (.inl upd_same)) (dpa_same (same_upd (rG.out M (by simp))) dG)⟩
    refine tAnd_of (decide (acc.length < 3)) (decide (wordAt ws j = "recipe")) (fun Q' q' => ⟨_, rfl, _, _, rfl, .inl (.inl (.inl eM)), ?_⟩) (fun hb Q' q' => ⟨_, rfl, _, rfl, x, ws, j, _, rfl, ws_same sm hw, by omega, _, rfl, q'⟩) ?_
    · refine ⟨_, _, rfl, rfl, _, rfl, ?_⟩
      exact (lt_lenV (n := 3) hvl).symm ▸ q'
    cases m with
    | zero =>
      have e4 : acc.length = 3 := hm
      refine ifF ?_ (fin go.symm)
      rw [decide_eq_false (show ¬ acc.length < 3 by omega)]
      rfl
    | succ n =>
      rw [reciGo] at go
      by_cases c : wordAt ws j = "recipe"
      · rw [if_pos c] at go
        refine ifT (by rw [decide_eq_true (show acc.length < 3 by omega), decide_eq_true c]; rfl) ?_
        refine ⟨fun σ' H2 => ∃ m', m' < n + 1 ∧ ∃ (acc : List Reci) (j : Nat) (vs : List V) (G : Hp) (z1 : Option V), acc.length + m' = 3 ∧ σ' = [some (.ref x), some (.int (j : Nat)), some (.ref g), some (.ref nn), some (.ref M), z1] ∧ Same H H2 ∧ H2 M = some (.lst vs) ∧ Reg H H2 G [M] ∧ DpAll K G vs (reciD acc) ∧
          j + 7000 * m' ≤ i + 21000 ∧ reciGo ws goods names m' acc j = readRecipes ws i goods names, fun _ _ h => h, ?_⟩
        have dH := dpa_same rG.sub dG
        refine ⟨_, rfl, _, rfl, _, rfl, M, vs, reciD acc, acc.map (·.name), rfl, .inl (.inl (.inl eM)), dH, reci_names acc, (by rw [List.length_map]; omega), fun D H1 hD e1 => ?_⟩
        have s1 : Same H' H1 := by
          rw [e1]
          exact same_upd hD
        have eD : H1 D = some (.lst ((acc.map (·.name)).map V.str)) := by
          rw [e1]
          exact upd_same
        clear e1
        have s01 := sm.trans s1
        refine ⟨_, rfl, _, rfl, x, D, g, nn, ws, j, acc.map (·.name), goods, names, rfl, ws_same s01 hw, by omega, .inl (.inl eD), sqL_same s01 hg, hgl, sqL_same s01 hn, hnl, ?_⟩
        generalize hra : readRecipe ws j (acc.map (·.name)) goods names = ra at go ⊢
        cases ra with
        | error e =>
          have z : ErrAt C H E e := q0 _ go.symm
          exact z.same s01
        | ok r =>
          intro p v H4 s4 ep hmade
          have far := recipe_far hra
          have e3 := s1 _ _ eM
          have e5 := s4 _ _ e3
          obtain ⟨G', rG', dG', dv, _⟩ := join_made (rG.more s1) dG s01 s4 e3 hmade
          refine ⟨p, _, rfl, .inl (.inl ep), rfl, v, _, rfl, _, _, rfl, rfl, ?_⟩
          refine ⟨_, rfl, tyL (.inl (.inl e5)), _, rfl, ?_⟩
          dsimp only [tNil]
          obtain ⟨s5, r5, d5⟩ := put_step rG' dG' dv (s01.trans s4) hM
          refine ⟨M, vs, _, rfl, rfl, e5, by omega, n, Nat.lt_succ_self _, acc ++ [r.1], r.2, _, G', _, by rw [List.length_append]; show _ + 1 + _ = 3; omega, rfl, s5, upd_same, r5, ?_, by omega, go⟩
          have z : reciD (acc ++ [r.1]) = reciD acc ++ [reciD1 r.1] := by
            unfold reciD
            rw [List.map_append]
            rfl
          rw [z]
          exact d5
      · rw [if_neg c] at go
        refine ifF ?_ (fin go.symm)
        rw [decide_eq_false c, Bool.and_false]
end

/-! ### as_tuples -/
mutual
def tupD : PyData → PyData
  | .list ds => .tuple (tupDs ds)
  | .tuple ds => .tuple (tupDs ds)
  | .none => .none
  | .bool b => .bool b
  | .int i => .int i
  | .str x => .str x
  | .dict ps => .dict ps
def tupDs : List PyData → List PyData
  | [] => []
  | d :: ds => tupD d :: tupDs ds
end
theorem tupDs_map : ∀ ds : List PyData, tupDs ds = ds.map tupD
  | [] => by rw [tupDs]; rfl
  | d :: ds => by rw [tupDs, tupDs_map ds]; rfl
def spTuples (K : PySem.W.Frag) (n : Nat) : Sp := fun vs H Q _ => ∃ (x : V) (d : PyData), vs = [x] ∧ Dp K H x d ∧ Fits n d ∧ ∀ (v : V) (H' : Hp), Same H H' → Made K H H' v (tupD d) → Q v H'
theorem lc_tups {K : PySem.W.Frag} {n : Nat} {J : It} {Gd : Hp → Prop} {xs : List V} {ds : List PyData} {H1 : Hp} {D : Addr} {Qd : Hp → Prop} {x0 : V} (w : Walk J xs.length Gd (YAt xs)) (hG : ∀ H', Same H1 H' → Gd H') (hd : DpAll K H1 xs ds) (hf : ∀ d ∈ ds, Fits n d) (hl : ds.length ≤ 100000) (hD : H1 D = none)
    (q : ∀ (H' : Hp) (vs : List V) (G' : Hp), Same H1 H' → H' D = some (.lst vs) → Reg H1 H' G' [D] → DpAll K G' vs (tupDs ds) → Qd H') :
    ∃ W : Nat → Nat → Hp → Prop, (∃ m, W 0 m (upd H1 D (.lst []))) ∧ ∀ i m H, W i m H →
      (J.stop i H ∧ Qd H) ∨ (J.go i H ∧ ∃ Nx : Hp → Prop, (∀ H', Nx H' → ∃ m', m' < m ∧ W (i + 1) m' H') ∧ ∀ x H', J.yld i H x H' → gName 1 x (wipe [some x0, none] [1]) H' fun σ2 H2 => wipe σ2 [1] = wipe [some x0, none] [1] ∧ tYes σ2 H2 fun b H3 =>
        if b = true then tCall (spTuples K n) [] E0 (tCons (tVar 1) tNil) σ2 H3 fun y H4 => ∃ acc, H4 D = some (.lst acc) ∧ acc.length < sizeLine ∧ Nx (upd H4 D (.lst (acc ++ [y]))) else Nx H3) := by
  have hs := sizeLine_eq
  have lx := dpa_len hd
  refine lc_it w (fun i H' => ∃ (vs : List V) (G' : Hp), Same H1 H' ∧ H' D = some (.lst vs) ∧ Reg H1 H' G' [D] ∧ DpAll K G' vs (tupDs (ds.take i))) ⟨[], hp0, same_upd hD, upd_same, reg0, .nil⟩ (fun i H' _ h => ?_) (fun i x H' H2 hi h hy => ?_) (fun H' h => ?_)
  · obtain ⟨_, _, h1, _⟩ := h
    exact hG _ h1
  · obtain ⟨vs, G', h1, h2, h3, h4⟩ := h
    obtain ⟨rfl, hx⟩ := hy
    obtain ⟨v, d, e1, e2, e3, e4⟩ := dpa_get hd (i := i) (by omega)
    obtain rfl : v = x := Option.some.inj (e1.symm.trans hx)
    refine ⟨rfl, yes_of ⟨_, rfl, v, d, rfl, dp_same h1 e4, hf d e3, fun u H3 s3 hm => ?_⟩⟩
    have e5 := s3 _ _ h2
    obtain ⟨G2, r2, d2, d3, _⟩ := join_made h3 h4 h1 s3 h2 hm
    obtain ⟨s5, r5, d5⟩ := put_step r2 d2 d3 (h1.trans s3) hD
    have hvl := dpa_len h4
    rw [tupDs_map, List.length_map, List.length_take] at hvl
    refine ⟨vs, e5, by omega, _, G2, s5, upd_same, r5, ?_⟩
    obtain ⟨hk, he⟩ := List.getElem?_eq_some_iff.mp e2
    rw [List.take_succ_eq_append_getElem hk, he, tupDs_map, List.map_append, ← tupDs_map]
    exact d5
  · obtain ⟨vs, G', h1, h2, h3, h4⟩ := h
    rw [lx, List.take_length] at h4
    exact q H' vs G' h1 h2 h3 h4
theorem kit_no {K : PySem.W.Frag} {t : String} (h1 : kitB t "list" = some false) (h2 : kitB t "tuple" = some false) : PySem.W.kitAny K (.type t) [.type "list", .type "tuple"] = some false :=
  kitAny_cons (kit_ty h1) (fun _ => kitAny_cons (kit_ty h2) (fun _ => kitAny_nil) (fun z => by cases z)) (fun z => by cases z)
theorem kit_li {K : PySem.W.Frag} : PySem.W.kitAny K (.type "list") [.type "list", .type "tuple"] = some true :=
  kitAny_cons (b := true) (kit_ty (by decide +kernel)) (fun z => by cases z) (fun _ => rfl)
theorem kit_tu {K : PySem.W.Frag} : PySem.W.kitAny K (.type "tuple") [.type "list", .type "tuple"] = some true :=
  kitAny_cons (b := false) (kit_ty (by decide +kernel)) (fun _ => kitAny_cons (b := true) (kit_ty (by decide +kernel)) (fun z => by cases z) (fun _ => rfl)) (fun z => by cases z)
theorem Reg.base {H0 H1 H G : Hp} {ex : List Addr} (s : Same H0 H1) (r : Reg H1 H G ex) : Reg H0 H G [] :=
  ⟨r.sub, fun b n => r.new b fun z => n (by
    cases e : H0 b with
    | none => rfl
    | some o =>
      have q := s b o e
      rw [z] at q
      cases q), fun _ h => by cases h⟩
theorem fin_tups {K : PySem.W.Frag} {H H1 H' G' : Hp} {D l : Addr} {vs : List V} {ds : List PyData} {Q : VK} (q : ∀ (v : V) (H' : Hp), Same H H' → Made K H H' v (.tuple (tupDs ds)) → Q v H') (s1 : Same H H1) (s' : Same H1 H') (r' : Reg H1 H' G' [D]) (d' : DpAll K G' vs (tupDs ds)) (hl : H' l = none) :
    Q (.ref l) (upd H' l (.tup vs)) := by
  have rb := r'.base s1
  have Gl : G' l = none := by
    cases e : G' l with
    | none => rfl
    | some o =>
      have z := r'.sub l o e
      rw [hl] at z
      cases z
  exact q _ _ ((s1.trans s').trans (same_upd hl)) ⟨_, rb.add (s1.trans s') hl (fun _ h => by cases h), .tup (.inl (.inl upd_same)) (dpa_same (same_upd Gl) d')⟩
section
variable {P : Program} {w : World} {K : PySem.W.Frag} {mg : Str → Option Value} {base : Heap} {f : Addr} {fd : FuncData}
theorem ok_as_tuples (M : MB mg) (F : FnP K "as_tuples" s_as_tuples f fd) (gf : mg "as_tuples" = some (.ref f)) : ∀ n : Nat, FnOk P w K mg base CX0 (n + 1) f fd ["part"] (spTuples K n) := by
  have bf : Binds K fd ["part"] [] := F.bindsN fun _ _ _ _ _ _ us hl => match us, hl with | [_], _ => rfl
  intro n
  induction n with
  | zero => exact ⟨fun vs H Q E ⟨_, _, _, _, h, _⟩ => h.elim, fun A outer s H args us vs Q E _ _ _ _ ⟨_, _, _, _, h, _⟩ => h.elim⟩
  | succ n ih =>
    have C_as_tuples : Callee P w K mg base CX0 "as_tuples" ["part"] (n + 1) (spTuples K n) := ⟨f, fd, gf, F.kp, bf, ih⟩
    refine F.ok sc_as_tuples (fun vs H Q E h => ?_) (fun cdv A outer s H vs Q E hr h => ⟨_, PSs.nox (pss_cons (ps_if (pt_val (pe_callB call_isiT (by rfl) M.isinstance (by decide +kernel) (pa_cons (pv 0) (pa_cons (pe_tup (pa_cons (pe_bltn (v := .ty "list") (u := .type "list") (by rfl) M.list (by decide +kernel) (by rfl)) (pa_cons (pe_bltn (v := .ty "tuple") (u := .type "tuple") (by rfl) M.tuple (by decide +kernel) (by rfl)) pa_nil))) pa_nil)))) (pss_one (ps_ret (pe_callTy call_tuple_of (by rfl) M.tuple (by decide +kernel) (pa_cons (pe_lc (own := [("item", 1)]) (g := gName 1) (by rfl) sc_as_tuples.nd (pi_either (pv 0)) (blkOk_by (own := [("item", 1)]) (N := N_as_tuples) (sc := defScope s_as_tuples) (by decide +kernel)) (fun _ _ _ _ _ => pg_name (i := 1) sc_as_tuples.nd rfl (.inl rfl)) (fun _ _ _ _ _ => pts_nil) (fun _ _ _ _ _ => (pe_callC C_as_tuples (hr.mono (by first | decide | exact Nat.le_refl _ | omega)) (by rfl) (pa_cons (pv 1) pa_nil)))) pa_nil)))) pss_nil)
  (pss_one (ps_ret (pv 0)))), ?_⟩)
    · obtain ⟨x, d, rfl, _⟩ := h
      rfl
    · obtain ⟨x, d, rfl, hx, hf, q⟩ := h
      have hs := sizeLine_eq
      refine ⟨_, rfl, (by show 2 ≤ sizeLine; omega), fun tp htp => ?_⟩
      dsimp only [tNil]
      have s1 : Same H (upd H tp (.tup [.ty "list", .ty "tuple"])) := same_upd htp
      have etp : upd H tp (.tup [.ty "list", .ty "tuple"]) tp = some (.tup [.ty "list", .ty "tuple"]) := upd_same
      generalize upd H tp (.tup [.ty "list", .ty "tuple"]) = H1 at s1 etp ⊢
      have hx1 := dp_same s1 hx
      have ty := dp_tyx hx1
      have pr : Paired ClsV [V.ty "list", V.ty "tuple"] [Value.type "list", Value.type "tuple"] := .cons (.ty _) (.cons (.ty _) .nil)
      cases d with
      | none => exact ⟨_, _, _, _, _, false, rfl, etp, pr, ty, kit_no (t := "NoneType") (by decide +kernel) (by decide +kernel), _, rfl, ifF rfl ⟨_, rfl, q _ _ s1 ⟨hp0, reg0, by cases hx; exact .non⟩⟩⟩
      | bool b => exact ⟨_, _, _, _, _, false, rfl, etp, pr, ty, kit_no (t := "bool") (by decide +kernel) (by decide +kernel), _, rfl, ifF rfl ⟨_, rfl, q _ _ s1 ⟨hp0, reg0, by cases hx; exact .bl _⟩⟩⟩
      | int b => exact ⟨_, _, _, _, _, false, rfl, etp, pr, ty, kit_no (t := "int") (by decide +kernel) (by decide +kernel), _, rfl, ifF rfl ⟨_, rfl, q _ _ s1 ⟨hp0, reg0, by cases hx; exact .int _⟩⟩⟩
      | str b => exact ⟨_, _, _, _, _, false, rfl, etp, pr, ty, kit_no (t := "str") (by decide +kernel) (by decide +kernel), _, rfl, ifF rfl ⟨_, rfl, q _ _ s1 ⟨hp0, reg0, by cases hx; exact .str _⟩⟩⟩
      | dict _ => exact hf.elim
      | list ds =>
        refine ⟨_, _, _, _, _, true, rfl, etp, pr, ty, kit_li, _, rfl, ifT rfl ?_⟩
        cases hx1 with
        | @lst a xs _ hsq hxs =>
        refine ⟨_, rfl, a, rfl, .inl ⟨⟨_, hsq⟩, fun D hD => ?_⟩⟩
        refine lc_tups walk_list (fun H' s' => sqL_same s' hsq) hxs hf.2 hf.1 hD (fun H' vs G' s' eD r' d' => ?_)
        exact ⟨D, vs, rfl, .inl ⟨.inl (.inl eD), fun l hl => fin_tups q s1 s' r' d' hl⟩⟩
      | tuple ds =>
        refine ⟨_, _, _, _, _, true, rfl, etp, pr, ty, kit_tu, _, rfl, ifT rfl ?_⟩
        cases hx1 with
        | @tup a xs _ hsq hxs =>
        refine ⟨_, rfl, a, rfl, .inr ⟨⟨_, hsq⟩, fun D hD => ?_⟩⟩
        refine lc_tups walk_tup (fun H' s' => same_seqT s' hsq) hxs hf.2 hf.1 hD (fun H' vs G' s' eD r' d' => ?_)
        exact ⟨D, vs, rfl, .inl ⟨.inl (.inl eD), fun l hl => fin_tups q s1 s' r' d' hl⟩⟩
end

/-! ### House.__init__ -/
def cut (H : Hp) (x : Addr) : Hp := fun b => if b = x then none else H b
theorem cut_ne {H : Hp} {x b : Addr} (h : b ≠ x) : cut H x b = H b := if_neg h
mutual
theorem dp_cut {K : PySem.W.Frag} {H : Hp} {x C dx : Addr} {fs : List (Str × V)} (hx : H x = some (.ins C dx fs)) : ∀ {v : V} {d : PyData}, Dp K H v d → Dp K (cut H x) v d
  | _, _, .non => .non
  | _, _, .bl b => .bl b
  | _, _, .int i => .int i
  | _, _, .str x => .str x
  | _, _, .lst (a := a) h hs => .lst (by
      rcases h with (q | ⟨o, q⟩) | q
      · refine .inl (.inl ?_)
        rw [cut_ne (fun z => by rw [z, hx] at q; cases q)]
        exact q
      · refine .inl (.inr ⟨o, ?_⟩)
        rw [cut_ne (fun z => by rw [z, hx] at q; cases q)]
        exact q
      · exact .inr q) (dpa_cut hx hs)
  | _, _, .tup (a := a) h hs => .tup (by
      rcases h with (q | ⟨o, q⟩) | q
      · refine .inl (.inl ?_)
        rw [cut_ne (fun z => by rw [z, hx] at q; cases q)]
        exact q
      · refine .inl (.inr ⟨o, ?_⟩)
        rw [cut_ne (fun z => by rw [z, hx] at q; cases q)]
        exact q
      · exact .inr q) (dpa_cut hx hs)
theorem dpa_cut {K : PySem.W.Frag} {H : Hp} {x C dx : Addr} {fs : List (Str × V)} (hx : H x = some (.ins C dx fs)) : ∀ {vs : List V} {ds : List PyData}, DpAll K H vs ds → DpAll K (cut H x) vs ds
  | _, _, .nil => .nil
  | _, _, .cons h t => .cons (dp_cut hx h) (dpa_cut hx t)
end
theorem cut_same {H H' : Hp} {x : Addr} (k : Kp x H H') : Same (cut H x) H' := fun b o e => by
  by_cases c : b = x
  · unfold cut at e
    rw [if_pos c] at e
    cases e
  · rw [cut_ne c] at e
    exact k b o c e
/-- what the head says of the class House, at C -/
structure HouT (K : PySem.W.Frag) (mg : Str → Option Value) (C : Addr) : Prop where
  cl : Cls K C
  n1 : NoAttr K C "goods"
  n2 : NoAttr K C "members"
  n3 : NoAttr K C "talks"
  n4 : NoAttr K C "recipes"
  n5 : NoAttr K C "orders"
  gC : mg "House" = some (.ref C)
/-- the parts of a house, as they were handed in -/
structure HParts where
  d1 : PyData
  d2 : PyData
  d3 : PyData
  d4 : PyData
  d5 : PyData
def HParts.fits (n : Nat) (p : HParts) : Prop := Fits n p.d1 ∧ Fits n p.d2 ∧ Fits n p.d3 ∧ Fits n p.d4 ∧ Fits n p.d5
def houFs (u1 u2 u3 u4 u5 : V) : List (Str × V) := [("goods", u1), ("members", u2), ("talks", u3), ("recipes", u4), ("orders", u5)]
/-- a house whose parts, as tuples, are in G -/
def HouIn (K : PySem.W.Frag) (C : Addr) (G H : Hp) (x : Addr) (p : HParts) : Prop := ∃ (dx : Addr) (u1 u2 u3 u4 u5 : V), H x = some (.ins C dx (houFs u1 u2 u3 u4 u5)) ∧ Dp K G u1 (tupD p.d1) ∧ Dp K G u2 (tupD p.d2) ∧ Dp K G u3 (tupD p.d3) ∧ Dp K G u4 (tupD p.d4) ∧ Dp K G u5 (tupD p.d5)
def spHInit (K : PySem.W.Frag) (C : Addr) (n : Nat) : Sp := fun vs H Q _ => ∃ (x dx : Addr) (v1 v2 v3 v4 v5 : V) (p : HParts), vs = [.ref x, v1, v2, v3, v4, v5] ∧ H x = some (.ins C dx []) ∧ Dp K H v1 p.d1 ∧ Dp K H v2 p.d2 ∧ Dp K H v3 p.d3 ∧ Dp K H v4 p.d4 ∧ Dp K H v5 p.d5 ∧ p.fits n ∧
  ∀ H' G, Kp x H H' → Reg H H' G [x] → HouIn K C G H' x p → Q .non H'
/-- one field more -/
theorem fld_step {K : PySem.W.Frag} {H Hc H' G : Hp} {x C dx : Addr} {fs0 fs fs' : List (Str × V)} {u : V} {d : PyData} (hx0 : H x = some (.ins C dx fs0)) (k : Kp x H Hc) (hx : Hc x = some (.ins C dx fs)) (rG : Reg H Hc G [x]) (s' : Same Hc H') (hm : Made K Hc H' u d) :
    Kp x H (upd H' x (.ins C dx fs')) ∧ ∃ G', Reg H (upd H' x (.ins C dx fs')) G' [x] ∧ Same G G' ∧ Dp K G' u d := by
  obtain ⟨G1, r1, d1⟩ := hm
  obtain ⟨r2, s2⟩ := rG.unD (fun b n => by
    by_cases c : b = x
    · rw [c, hx]
      exact fun z => by cases z
    · intro z
      cases e : H b with
      | none => exact n e
      | some o =>
        have q := k b o c e
        rw [z] at q
        cases q) s' r1 (by
    intro a ha z
    rw [List.mem_singleton.mp ha, hx] at z
    cases z)
  refine ⟨fun b o c e => ?_, _, r2.put (List.mem_singleton.mpr rfl), un2_l, dp_same s2 d1⟩
  rw [upd_ne c]
  exact s' _ _ (k b o c e)
section
variable {P : Program} {w : World} {K : PySem.W.Frag} {mg : Str → Option Value} {base : Heap} {f C : Addr} {fd : FuncData}
abbrev FnM (K : PySem.W.Frag) (x qual : Str) (st : Stmt) (dvs : List V) (f : Addr) (fd : FuncData) : Prop := FunD K x qual (defArgs st) (defBody st) (defScope st) dvs [] f fd
theorem ok_House_init (T : HouT K mg C) (n : Nat) (F : FnM K "__init__" "House.__init__" s_House___init__ [] f fd) (C_as_tuples : Callee P w K mg base CX0 "as_tuples" ["part"] (n + 1) (spTuples K n)) :
    FnOk P w K mg base CX0 (n + 2) f fd ["self", "goods", "members", "talks", "recipes", "orders"] (spHInit K C n) := by
  refine F.ok sc_House___init__ (fun vs H Q E h => ?_) (fun cdv A outer s H vs Q E hr h => ⟨_, PSs.nox (pss_cons (ps_fld (pv 0) (pe_callC C_as_tuples (hr.mono (by first | decide | exact Nat.le_refl _ | omega)) (by rfl) (pa_cons (pv 1) pa_nil)) rfl)
  (pss_cons (ps_fld (pv 0) (pe_callC C_as_tuples (hr.mono (by first | decide | exact Nat.le_refl _ | omega)) (by rfl) (pa_cons (pv 2) pa_nil)) rfl)
  (pss_cons (ps_fld (pv 0) (pe_callC C_as_tuples (hr.mono (by first | decide | exact Nat.le_refl _ | omega)) (by rfl) (pa_cons (pv 3) pa_nil)) rfl)
  (pss_cons (ps_fld (pv 0) (pe_callC C_as_tuples (hr.mono (by first | decide | exact Nat.le_refl _ | omega)) (by rfl) (pa_cons (pv 4) pa_nil)) rfl)
  (pss_one (ps_fld (pv 0) (pe_callC C_as_tuples (hr.mono (by first | decide | exact Nat.le_refl _ | omega)) (by rfl) (pa_cons (pv 5) pa_nil)) rfl)))))), ?_⟩)
  · obtain ⟨x, dx, v1, v2, v3, v4, v5, p, rfl, _⟩ := h
    rfl
  · obtain ⟨x, dx, v1, v2, v3, v4, v5, p, rfl, hx, h1, h2, h3, h4, h5, ⟨f1, f2, f3, f4, f5⟩, q⟩ := h
    have c1 := dp_cut hx h1
    have c2 := dp_cut hx h2
    have c3 := dp_cut hx h3
    have c4 := dp_cut hx h4
    have c5 := dp_cut hx h5
    have r0 : Reg H H hp0 [x] := reg0
    refine ⟨_, rfl, v1, p.d1, rfl, h1, f1, fun u1 H1 s1 m1 => ?_⟩
    have e1 := s1 _ _ hx
    refine ⟨_, rfl, x, C, dx, _, rfl, e1, T.cl, T.n1, (by show 0 < 1000; omega), ?_⟩
    obtain ⟨k1, G1, r1, sg1, d1⟩ := fld_step (fs' := putF "goods" u1 ([])) hx (Kp.refl) hx r0 s1 m1
    have x1 : upd H1 x (.ins C dx (putF "goods" u1 ([]))) x = some (.ins C dx (putF "goods" u1 ([]))) := upd_same
    generalize upd H1 x (.ins C dx (putF "goods" u1 ([]))) = K1 at k1 r1 x1 ⊢
    refine ⟨_, rfl, v2, p.d2, rfl, (dp_same (cut_same k1) c2), f2, fun u2 H2 s2 m2 => ?_⟩
    have e2 := s2 _ _ x1
    refine ⟨_, rfl, x, C, dx, _, rfl, e2, T.cl, T.n2, (by show 1 < 1000; omega), ?_⟩
    obtain ⟨k2, G2, r2, sg2, d2⟩ := fld_step (fs' := putF "members" u2 (putF "goods" u1 ([]))) hx k1 x1 r1 s2 m2
    have x2 : upd H2 x (.ins C dx (putF "members" u2 (putF "goods" u1 ([])))) x = some (.ins C dx (putF "members" u2 (putF "goods" u1 ([])))) := upd_same
    generalize upd H2 x (.ins C dx (putF "members" u2 (putF "goods" u1 ([])))) = K2 at k2 r2 x2 ⊢
    refine ⟨_, rfl, v3, p.d3, rfl, (dp_same (cut_same k2) c3), f3, fun u3 H3 s3 m3 => ?_⟩
    have e3 := s3 _ _ x2
    refine ⟨_, rfl, x, C, dx, _, rfl, e3, T.cl, T.n3, (by show 2 < 1000; omega), ?_⟩
    obtain ⟨k3, G3, r3, sg3, d3⟩ := fld_step (fs' := putF "talks" u3 (putF "members" u2 (putF "goods" u1 ([])))) hx k2 x2 r2 s3 m3
    have x3 : upd H3 x (.ins C dx (putF "talks" u3 (putF "members" u2 (putF "goods" u1 ([]))))) x = some (.ins C dx (putF "talks" u3 (putF "members" u2 (putF "goods" u1 ([]))))) := upd_same
    generalize upd H3 x (.ins C dx (putF "talks" u3 (putF "members" u2 (putF "goods" u1 ([]))))) = K3 at k3 r3 x3 ⊢
    refine ⟨_, rfl, v4, p.d4, rfl, (dp_same (cut_same k3) c4), f4, fun u4 H4 s4 m4 => ?_⟩
    have e4 := s4 _ _ x3
    refine ⟨_, rfl, x, C, dx, _, rfl, e4, T.cl, T.n4, (by show 3 < 1000; omega), ?_⟩
    obtain ⟨k4, G4, r4, sg4, d4⟩ := fld_step (fs' := putF "recipes" u4 (putF "talks" u3 (putF "members" u2 (putF "goods" u1 ([]))))) hx k3 x3 r3 s4 m4
    have x4 : upd H4 x (.ins C dx (putF "recipes" u4 (putF "talks" u3 (putF "members" u2 (putF "goods" u1 ([])))))) x = some (.ins C dx (putF "recipes" u4 (putF "talks" u3 (putF "members" u2 (putF "goods" u1 ([])))))) := upd_same
    generalize upd H4 x (.ins C dx (putF "recipes" u4 (putF "talks" u3 (putF "members" u2 (putF "goods" u1 ([])))))) = K4 at k4 r4 x4 ⊢
    refine ⟨_, rfl, v5, p.d5, rfl, (dp_same (cut_same k4) c5), f5, fun u5 H5 s5 m5 => ?_⟩
    have e5 := s5 _ _ x4
    refine ⟨_, rfl, x, C, dx, _, rfl, e5, T.cl, T.n5, (by show 4 < 1000; omega), ?_⟩
    obtain ⟨k5, G5, r5, sg5, d5⟩ := fld_step (fs' := putF "orders" u5 (putF "recipes" u4 (putF "talks" u3 (putF "members" u2 (putF "goods" u1 ([])))))) hx k4 x4 r4 s5 m5
    have x5 : upd H5 x (.ins C dx (putF "orders" u5 (putF "recipes" u4 (putF "talks" u3 (putF "members" u2 (putF "goods" u1 ([]))))))) x = some (.ins C dx (putF "orders" u5 (putF "recipes" u4 (putF "talks" u3 (putF "members" u2 (putF "goods" u1 ([]))))))) := upd_same
    generalize upd H5 x (.ins C dx (putF "orders" u5 (putF "recipes" u4 (putF "talks" u3 (putF "members" u2 (putF "goods" u1 ([]))))))) = K5 at k5 r5 x5 ⊢
    exact q K5 G5 k5 r5 ⟨dx, u1, u2, u3, u4, u5, x5, dp_same (((sg2.trans sg3).trans sg4).trans sg5) d1, dp_same ((sg3.trans sg4).trans sg5) d2, dp_same (sg4.trans sg5) d3, dp_same sg5 d4, d5⟩
end

/-! ### how long what is read can be -/
theorem goods_end {ws : List Str} : ∀ {n : Nat} {acc : List Str} {i : Nat} {r : List Str × Nat}, goodsGo ws n acc i = .ok r → r.2 ≤ i + 2 * n ∧ r.1.length ≤ acc.length + n
  | 0, _, _, r, h => by
    rw [goodsGo] at h
    cases h
    exact ⟨Nat.le_refl _, Nat.le_refl _⟩
  | n + 1, acc, i, r, h => by
    rw [goodsGo] at h
    split at h
    · split at h
      · split at h
        · obtain ⟨h1, h2⟩ := goods_end h
          rw [List.length_append] at h2
          have h3 : [wordAt ws (i + 1)].length = 1 := rfl
          omega
        · cases h
      · cases h
    · cases h
      show i ≤ _ ∧ acc.length ≤ _
      omega
theorem amounts_few {ws : List Str} {key : Str} {goods : List Str} : ∀ {n : Nat} {left : List Nat} {acc : List (Nat × Nat)} {i : Nat} {r : List (Nat × Nat) × Nat}, amountsGo ws key goods n left acc i = .ok r → r.1.length ≤ acc.length + n
  | 0, _, _, i, r, h => by
    rw [amountsGo] at h
    cases h
    exact Nat.le_refl _
  | n + 1, left, acc, i, r, h => by
    rw [amountsGo] at h
    split at h
    · split at h
      · cases h
      · split at h
        · have h2 := amounts_few h
          rw [List.length_append] at h2
          have h3 : ∀ x : Nat × Nat, [x].length = 1 := fun _ => rfl
          rw [h3] at h2
          omega
        · cases h
    · cases h
      show acc.length ≤ _
      omega
theorem amts_few {ws : List Str} {i : Nat} {key : Str} {goods : List Str} {r : List (Nat × Nat) × Nat} (h : readAmounts ws i key goods = .ok r) : r.1.length ≤ goods.length := by
  have z := amounts_few h
  have e : ([] : List (Nat × Nat)).length = 0 := rfl
  omega
theorem memb_end {ws goods : List Str} (hg : goods.length ≤ 4) : ∀ {n : Nat} {acc : List Memb} {i : Nat} {r : List Memb × Nat}, (∀ m ∈ acc, m.2.length ≤ 4) → membGo ws goods n acc i = .ok r → r.2 ≤ i + 14 * n ∧ r.1.length ≤ acc.length + n ∧ ∀ m ∈ r.1, m.2.length ≤ 4
  | 0, _, _, r, ha, h => by
    rw [membGo] at h
    cases h
    exact ⟨Nat.le_refl _, Nat.le_refl _, ha⟩
  | n + 1, acc, i, r, ha, h => by
    rw [membGo] at h
    split at h
    · split at h
      · split at h
        · split at h
          · rename_i r1 h1
            have f1 := amounts_far h1
            have f2 := amts_few h1
            obtain ⟨g1, g2, g3⟩ := memb_end hg (fun m hm => by
              rcases List.mem_append.mp hm with hm | hm
              · exact ha m hm
              · rw [List.mem_singleton.mp hm]
                exact Nat.le_trans f2 hg) h
            rw [List.length_append] at g2
            have h3 : ∀ x : Memb, [x].length = 1 := fun _ => rfl
            rw [h3] at g2
            exact ⟨by omega, by omega, g3⟩
          · cases h
        · cases h
      · cases h
    · cases h
      exact ⟨by show i ≤ _; omega, by show acc.length ≤ _; omega, ha⟩
theorem talks_end {ws names : List Str} : ∀ {n : Nat} {left acc : List (Nat × Nat)} {i : Nat} {r : List (Nat × Nat) × Nat}, talksGo ws names n left acc i = .ok r → r.2 ≤ i + 3 * n ∧ r.1.length ≤ acc.length + n
  | 0, _, _, _, r, h => by
    rw [talksGo] at h
    cases h
    exact ⟨Nat.le_refl _, Nat.le_refl _⟩
  | n + 1, left, acc, i, r, h => by
    rw [talksGo] at h
    split at h
    · split at h
      · cases h
      · split at h
        · cases h
        · obtain ⟨g1, g2⟩ := talks_end h
          rw [List.length_append] at g2
          have h3 : ∀ x : Nat × Nat, [x].length = 1 := fun _ => rfl
          rw [h3] at g2
          omega
    · cases h
      show i ≤ _ ∧ acc.length ≤ _
      omega
theorem needs_few {ws names : List Str} : ∀ {n : Nat} {left acc : List Nat} {i : Nat} {r : List Nat × Nat}, needsGo ws names n left acc i = .ok r → r.1.length ≤ acc.length + n
  | 0, _, _, i, r, h => by
    rw [needsGo] at h
    cases h
    exact Nat.le_refl _
  | n + 1, left, acc, i, r, h => by
    rw [needsGo] at h
    split at h
    · split at h
      · cases h
      · have g2 := needs_few h
        rw [List.length_append] at g2
        have h3 : ∀ x : Nat, [x].length = 1 := fun _ => rfl
        rw [h3] at g2
        omega
    · cases h
      show acc.length ≤ _
      omega
def Reci.few (o : Reci) : Prop := o.needs.length ≤ 4 ∧ o.takes.length ≤ 4 ∧ o.gives.length ≤ 4
theorem reci1_end {ws : List Str} {i : Nat} {taken goods names : List Str} {r : Reci × Nat} (hg : goods.length ≤ 4) (h : readRecipe ws i taken goods names = .ok r) : r.1.few := by
  unfold readRecipe at h
  split at h
  · split at h
    · split at h
      · split at h
        · split at h
          · split at h
            · cases h
            · split at h
              · cases h
              · rename_i r1 h1
                split at h
                · cases h
                · rename_i r2 h2
                  split at h
                  · cases h
                  · rename_i r3 h3
                    cases h
                    have f1 := needs_few h1
                    have f2 := amts_few h2
                    have f3 := amts_few h3
                    have e : ([] : List Nat).length = 0 := rfl
                    exact ⟨by show r1.1.length ≤ 4; omega, by show r2.1.length ≤ 4; omega, by show r3.1.length ≤ 4; omega⟩
          · cases h
        · cases h
      · cases h
    · cases h
  · cases h
theorem reci_end {ws goods names : List Str} (hg : goods.length ≤ 4) : ∀ {n : Nat} {acc : List Reci} {i : Nat} {r : List Reci × Nat}, (∀ m ∈ acc, m.few) → reciGo ws goods names n acc i = .ok r → r.2 ≤ i + 34 * n ∧ r.1.length ≤ acc.length + n ∧ ∀ m ∈ r.1, m.few
  | 0, _, _, r, ha, h => by
    rw [reciGo] at h
    cases h
    exact ⟨Nat.le_refl _, Nat.le_refl _, ha⟩
  | n + 1, acc, i, r, ha, h => by
    rw [reciGo] at h
    split at h
    · split at h
      · rename_i r1 h1
        have f1 := recipe_far h1
        have f2 := reci1_end hg h1
        obtain ⟨g1, g2, g3⟩ := reci_end hg (fun m hm => by
          rcases List.mem_append.mp hm with hm | hm
          · exact ha m hm
          · rw [List.mem_singleton.mp hm]
            exact f2) h
        rw [List.length_append] at g2
        have h3 : ∀ x : Reci, [x].length = 1 := fun _ => rfl
        rw [h3] at g2
        exact ⟨by omega, by omega, g3⟩
      · cases h
    · cases h
      exact ⟨by show i ≤ _; omega, by show acc.length ≤ _; omega, ha⟩
theorem ord_end {ws goods : List Str} (hg : goods.length ≤ 4) : ∀ {n : Nat} {acc : List Ordr} {i : Nat} {r : List Ordr × Nat}, (∀ m ∈ acc, m.takes.length ≤ 4) → ordGo ws goods n acc i = .ok r → r.2 ≤ i + 16 * n ∧ r.1.length ≤ acc.length + n ∧ ∀ m ∈ r.1, m.takes.length ≤ 4
  | 0, _, _, r, ha, h => by
    rw [ordGo] at h
    cases h
    exact ⟨Nat.le_refl _, Nat.le_refl _, ha⟩
  | n + 1, acc, i, r, ha, h => by
    rw [ordGo] at h
    split at h
    · split at h
      · split at h
        · split at h
          · split at h
            · split at h
              · rename_i r1 h1
                have f1 := amounts_far h1
                have f2 := amts_few h1
                obtain ⟨g1, g2, g3⟩ := ord_end hg (fun m hm => by
                  rcases List.mem_append.mp hm with hm | hm
                  · exact ha m hm
                  · rw [List.mem_singleton.mp hm]
                    exact Nat.le_trans f2 hg) h
                rw [List.length_append] at g2
                have h3 : ∀ x : Ordr, [x].length = 1 := fun _ => rfl
                rw [h3] at g2
                exact ⟨by omega, by omega, g3⟩
              · cases h
            · cases h
          · cases h
        · cases h
      · cases h
    · cases h
      exact ⟨by show i ≤ _; omega, by show acc.length ≤ _; omega, ha⟩
/-! ### a house of words -/
structure Hous where
  goods : List Str
  members : List Memb
  talks : List (Nat × Nat)
  recipes : List Reci
  orders : List Ordr
deriving DecidableEq
def Hous.parts (h : Hous) : HParts := ⟨.list (strD h.goods), .list (membD h.members), .list (amtD h.talks), .list (reciD h.recipes), .list (ordD h.orders)⟩
structure Hous.Few (h : Hous) : Prop where
  g : h.goods.length ≤ 4
  m : h.members.length ≤ 5
  m1 : ∀ x ∈ h.members, x.2.length ≤ 4
  t : h.talks.length ≤ 2500
  r : h.recipes.length ≤ 3
  r1 : ∀ x ∈ h.recipes, x.few
  o : h.orders.length ≤ 4
  o1 : ∀ x ∈ h.orders, x.takes.length ≤ 4
theorem fits_mono : ∀ {n m : Nat} {d : PyData}, n ≤ m → Fits n d → Fits m d
  | 0, _, _, _, h => h.elim
  | n + 1, 0, _, h, _ => absurd h (Nat.not_succ_le_zero _)
  | n + 1, m + 1, .none, _, _ => trivial
  | n + 1, m + 1, .bool _, _, _ => trivial
  | n + 1, m + 1, .int _, _, _ => trivial
  | n + 1, m + 1, .str _, _, _ => trivial
  | n + 1, m + 1, .list ds, h, f => ⟨f.1, fun d hd => fits_mono (Nat.le_of_succ_le_succ h) (f.2 d hd)⟩
  | n + 1, m + 1, .tuple ds, h, f => ⟨f.1, fun d hd => fits_mono (Nat.le_of_succ_le_succ h) (f.2 d hd)⟩
  | n + 1, m + 1, .dict _, _, f => f.elim
theorem fits_amt {l : List (Nat × Nat)} (h : l.length ≤ 100000) : Fits 3 (.list (amtD l)) := by
  refine ⟨by unfold amtD; rw [List.length_map]; exact h, fun d hd => ?_⟩
  obtain ⟨p, _, rfl⟩ := List.mem_map.mp hd
  refine ⟨by show 2 ≤ 100000; omega, fun d hd => ?_⟩
  rcases List.mem_cons.mp hd with rfl | hd
  · trivial
  · rcases List.mem_cons.mp hd with rfl | hd
    · trivial
    · cases hd
theorem fits_nat {l : List Nat} (h : l.length ≤ 100000) : Fits 2 (.list (natD l)) := by
  refine ⟨by unfold natD; rw [List.length_map]; exact h, fun d hd => ?_⟩
  obtain ⟨p, _, rfl⟩ := List.mem_map.mp hd
  trivial
theorem Hous.Few.fits {h : Hous} (f : h.Few) : h.parts.fits 5 := by
  have fg := f.g
  have fm := f.m
  have ft := f.t
  have fr := f.r
  have fo := f.o
  refine ⟨⟨by unfold strD; rw [List.length_map]; omega, fun d hd => ?_⟩, ⟨by unfold membD; rw [List.length_map]; omega, fun d hd => ?_⟩, fits_mono (by omega) (fits_amt (by omega)), ⟨by unfold reciD; rw [List.length_map]; omega, fun d hd => ?_⟩, ⟨by unfold ordD; rw [List.length_map]; omega, fun d hd => ?_⟩⟩
  · obtain ⟨p, _, rfl⟩ := List.mem_map.mp hd
    trivial
  · obtain ⟨p, hp, rfl⟩ := List.mem_map.mp hd
    have z := f.m1 p hp
    refine ⟨by show 2 ≤ 100000; omega, fun d hd => ?_⟩
    rcases List.mem_cons.mp hd with rfl | hd
    · trivial
    · rcases List.mem_cons.mp hd with rfl | hd
      · exact fits_amt (by omega)
      · cases hd
  · obtain ⟨p, hp, rfl⟩ := List.mem_map.mp hd
    obtain ⟨z1, z2, z3⟩ := f.r1 p hp
    refine ⟨by show 6 ≤ 100000; omega, fun d hd => ?_⟩
    rcases List.mem_cons.mp hd with rfl | hd
    · trivial
    · rcases List.mem_cons.mp hd with rfl | hd
      · trivial
      · rcases List.mem_cons.mp hd with rfl | hd
        · trivial
        · rcases List.mem_cons.mp hd with rfl | hd
          · exact fits_mono (n := 2) (m := 3) (by decide) (fits_nat (Nat.le_trans z1 (by decide)))
          · rcases List.mem_cons.mp hd with rfl | hd
            · exact fits_amt (by omega)
            · rcases List.mem_cons.mp hd with rfl | hd
              · exact fits_amt (by omega)
              · cases hd
  · obtain ⟨p, hp, rfl⟩ := List.mem_map.mp hd
    have z := f.o1 p hp
    refine ⟨by show 3 ≤ 100000; omega, fun d hd => ?_⟩
    rcases List.mem_cons.mp hd with rfl | hd
    · trivial
    · rcases List.mem_cons.mp hd with rfl | hd
      · trivial
      · rcases List.mem_cons.mp hd with rfl | hd
        · exact fits_amt (by omega)
        · cases hd
def readHouse (ws : List Str) : Except Nat Hous :=
  match readGoods ws with
  | .error e => .error e
  | .ok g => match readMembers ws g.2 g.1 with
    | .error e => .error e
    | .ok m => match readTalks ws m.2 (m.1.map (·.1)) with
      | .error e => .error e
      | .ok t => match readRecipes ws t.2 g.1 (m.1.map (·.1)) with
        | .error e => .error e
        | .ok r => match readOrders ws r.2 g.1 with
          | .error e => .error e
          | .ok o => if o.2 < ws.length then .error o.2 else .ok ⟨g.1, m.1, t.1, r.1, o.1⟩
def wordsOf (t : Str) : List Str := if t.length = 0 then [] else Txt.split t " "
def spReadHouse (K : PySem.W.Frag) (C CH : Addr) : Sp := fun vs H Q E => ∃ t : Str, vs = [.str t] ∧ t.length ≤ 1000000 ∧ (wordsOf t).length ≤ 100000 ∧ (∀ x ∈ wordsOf t, x.length ≤ 100000) ∧
  (match readHouse (wordsOf t) with
    | .ok h => ∀ (a : Addr) (H' G : Hp), H a = none → Same H H' → Reg H H' G [] → G a = none → h.Few → HouIn K CH G H' a h.parts → Q (.ref a) H'
    | .error e => ErrAt C H E e)

/-! ### an own class's methods, operators, making -/
structure MethF (P : Program) (w : World) (K : PySem.W.Frag) (mg : Str → Option Value) (base : Heap) (CX : CXT) (C : Addr) (m : Str) (k : Nat) (sp : Sp) : Prop where
  ex : ∃ g, PySem.W.findIn K (.ref C) m = some (some (.ref g)) ∧ PySem.W.isFn K (.ref g) = true ∧ FnR P w K mg base CX k g sp
/-- x op y by the class's own def, both instances of the class -/
def rOwnB (C : Addr) (sp : Sp) (E : XK) : R2 := fun x y H Q => ∃ a b dx fs dy gs, x = .ref a ∧ y = .ref b ∧ H a = some (.ins C dx fs) ∧ H b = some (.ins C dy gs) ∧ sp [x, y] H Q E
section
variable {X : Cx} {CX : CXT} {k : Nat} {C : Addr} {sp : Sp} {E : XK}
theorem op_bin {op : Operator} (hc : PySem.W.selfFirst X.K C = true) (M : MethF X.prog X.w X.K X.mg X.base CX C (PySem.dunder op.info.2) k sp) (hr : Room k X.A) (hx : Passes CX X E) : OpR X (binaryOp op) (rOwnB C sp E) := by
  intro pins s σ H x y v u Q I rx ry h
  obtain ⟨a, b, dx, fs, dy, gs, rfl, rfl, ha, hb, q⟩ := h
  obtain ⟨g, hs, hf, F⟩ := M.ex
  cases (show v = Value.ref a from rx)
  cases (show u = Value.ref b from ry)
  obtain ⟨mA, O, _⟩ := ins_get I.hok ha
  obtain ⟨od, J, _⟩ := O.look
  obtain ⟨mB, O', _⟩ := ins_get I.hok hb
  obtain ⟨od', J', _⟩ := O'.look
  obtain ⟨m, hF⟩ := I.fr
  refine PySem.W.binop_K hF I.ok.mod.kin J J'.type hc hs hf ?_
  refine wpAny_mono (wpAny_call (run_fnR (us := [.ref a, .ref b]) (vs := [.ref a, .ref b]) F hr hx I (.cons rfl (.cons rfl .nil)) q)) (fun w s' z => ?_) fun _ _ x => x
  obtain ⟨z', H', I', rz, qz⟩ := z
  exact SlX.cmpback rz ⟨z', H', I', rz, qz⟩
theorem op_eqO (hn : PySem.W.notFirst X.K C (.ref C) = true) (M : MethF X.prog X.w X.K X.mg X.base CX C "__eq__" k sp) (hr : Room k X.A) (hx : Passes CX X E) : OpR X (compareOp .Eq) (rOwnB C sp E) := by
  intro pins s σ H x y v u Q I rx ry h
  obtain ⟨a, b, dx, fs, dy, gs, rfl, rfl, ha, hb, q⟩ := h
  obtain ⟨g, hs, hf, F⟩ := M.ex
  cases (show v = Value.ref a from rx)
  cases (show u = Value.ref b from ry)
  obtain ⟨mA, O, _⟩ := ins_get I.hok ha
  obtain ⟨od, J, _⟩ := O.look
  obtain ⟨mB, O', _⟩ := ins_get I.hok hb
  obtain ⟨od', J', _⟩ := O'.look
  obtain ⟨m, hF⟩ := I.fr
  rw [show compareOp .Eq (.ref a) (.ref b) = richCompare .Eq (.ref a) (.ref b) from rfl]
  refine PySem.W.cmp_K (op := .Eq) hr.units0 hF I.ok.mod.kin J J'.type hn hs hf ?_
  refine wpAny_mono (wpAny_call (run_fnR (us := [.ref a, .ref b]) (vs := [.ref a, .ref b]) F hr hx I (.cons rfl (.cons rfl .nil)) q)) (fun w s' z => ?_) fun _ _ x => x
  obtain ⟨z', H', I', rz, qz⟩ := z
  exact SlX.cmpback rz ⟨z', H', I', rz, qz⟩
def rStrO (C : Addr) (sp : Sp) (E : XK) : List V → Hp → VK → Prop := fun xs H Q => ∃ a dx fs, xs = [.ref a] ∧ H a = some (.ins C dx fs) ∧ sp [.ref a] H (fun z H' => ∃ y, z = .str y ∧ Q z H') E
/-- str(x) by the class's own __str__ -/
theorem call_strO (M : MethF X.prog X.w X.K X.mg X.base CX C "__str__" k sp) (hr : Room (k + 2) X.A) (hx : Passes CX X E) : CallR X (.type "str") (rStrO C sp E) := by
  intro pins s σ H xs us Q I r h
  obtain ⟨a, dx, fs, rfl, ha, q⟩ := h
  obtain ⟨g, hs, hf, F⟩ := M.ex
  obtain ⟨u, rfl, ru⟩ := r.one
  cases (show u = Value.ref a from ru)
  obtain ⟨mA, O, _⟩ := ins_get I.hok ha
  obtain ⟨od, J, _⟩ := O.look
  have hr2 : Room k X.A.in1.in1 := (show Room (k + 1) X.A.in1 from Room.in1 hr).in1
  refine PySem.W.kso_call hr2.units0 I.kIn J hs hf (wpAny_mono (wpAny_call (SlX.run_at (us := [.ref a]) (ws := [.ref a]) (fun A outer s H us vs Q E hr e0 rr hsp => F A outer s H us vs Q E hr e0 rr hsp) hr2 I.env0.in1.in1 hx I (.cons rfl .nil) q)) (fun w s' z => ?_) fun _ _ x => x)
  obtain ⟨z', H', I', rz, y, ey, qz⟩ := z
  subst ey
  obtain ⟨t, e⟩ := (show ∃ t, w = Value.str y t from rz)
  cases e
  exact ⟨.str y, H', I', ⟨t, rfl⟩, qz⟩
end
/-- C(e, ..) -/
structure MakeF (P : Program) (w : World) (K : PySem.W.Frag) (mg : Str → Option Value) (base : Heap) (CX : CXT) (x : Str) (C : Addr) (ps : List Str) (dvs : List V) (k : Nat) (sp : Sp) : Prop where
  g : mg x = some (.ref C)
  ex : ∃ f fd ds, Mk K C f ∧ Vals dvs ds ∧ Binds K fd ps ds ∧ FnOk P w K mg base CX k f fd ps sp
structure MethC (P : Program) (w : World) (K : PySem.W.Frag) (mg : Str → Option Value) (base : Heap) (CX : CXT) (C : Addr) (m : Str) (ps : List Str) (k : Nat) (sp : Sp) : Prop where
  cl : Cls K C
  ex : ∃ f fd, Meth K C m f ∧ Binds K fd ps [] ∧ FnOk P w K mg base CX k f fd ps sp
section
variable {X : Cx} {CX : CXT} {k : Nat} {C : Addr} {ps : List Str} {dvs : List V} {sp : Sp} {E : XK} {x m : Str} {p pos apos : Pos} {e o : Expr} {es : List Expr} {ta : TE} {t : TA}
theorem pe_makeX (M : MakeF X.prog X.w X.K X.mg X.base CX x C ps dvs k sp) (hr : Room (k + 1) X.A) (hg : Gl X x) (hx : Passes CX X E) (ha : PA X (e :: es) t) (hdb : (x == ("__debug__" : Str)) = false := by decide)
    (he : starEach (e :: es) X.env = (false, eval e X.env) :: starEach es X.env := by rfl) (hpl : (backTo pos (starEach es X.env)).any (·.1) = false := by rfl) :
    PE X (.Call (.Name x p) (e :: es) [] pos) (tMake C sp dvs E t) := by
  obtain ⟨f, fd, ds, h1, h2, h3, h4⟩ := M.ex
  exact pe_make h1 h4 hr hg M.g h3 h2 hx ha hdb he hpl
theorem pe_methX {pl : Sem Bool} (M : MethC X.prog X.w X.K X.mg X.base CX C m ps k sp) (hr : Room k X.A) (hx : Passes CX X E) (he : PE X o ta) (ha : PA X (e :: es) t)
    (hst : starEach (e :: es) X.env = (false, eval e X.env) :: starEach es X.env := by rfl) (hpl : (backTo pos (starEach es X.env)).any (·.1) = false := by rfl)
    (ht : eval (.Call (.Attribute o m apos) (e :: es) [] pos) X.env = (do
      let ov ← eval o X.env
      standAt apos.atName
      let (f, first) ← holding [ov] (getMethod ov m pl)
      callWith pos f first (backTo pos (starEach (e :: es) X.env)) (backToKw pos (keywordEach [] X.env))) := by rfl) :
    PE X (.Call (.Attribute o m apos) (e :: es) [] pos) (tMeth C m sp [] E ta t) := by
  obtain ⟨f, fd, h1, h2, h3⟩ := M.ex
  exact pe_meth he M.cl h1 h3 hr h2 .nil hx ha hst hpl ht
end

/-! ### read_house -/
theorem words_if {K : PySem.W.Frag} {t : Str} {σ : L2.St} {H : Hp} {Q : VK} (h0 : σ[0]? = some (some (.str t))) (ht : t.length ≤ 1000000) (q : ∀ W, H W = none → Q (.ref W) (upd H W (.lst ((wordsOf t).map V.str)))) :
    tIf (fun σ H Q => tVar 0 σ H fun x H' => ∃ k, TruV K x H' k ∧ Q k H') (tM1 (fun x xs H Q => ∃ a b, x = .str a ∧ xs = [.str b] ∧ (b.length == 0) = false ∧ a.length + 2 ≤ sizeLine ∧ rNewStrs (Txt.split a b) H Q) (tVar 0) (tC (.str " "))) (tLst tNil) σ H Q := by
  have hs := sizeLine_eq
  refine ⟨_, h0, ((t.length : Int) != 0), ⟨by omega, rfl⟩, ?_⟩
  by_cases c : t.length = 0
  · have e : ((t.length : Int) != 0) = false := by
      rw [c]
      rfl
    refine ifF e ?_
    refine ⟨(by show 0 ≤ sizeLine; omega), fun W hW => ?_⟩
    have z := q W hW
    unfold wordsOf at z
    rw [if_pos c] at z
    exact z
  · have e : ((t.length : Int) != 0) = true := by
      rw [bne_iff_ne]
      omega
    refine ifT e ?_
    refine ⟨_, h0, ⟨_, rfl⟩, t, " ", rfl, rfl, by decide, by omega, ?_⟩
    unfold wordsOf at q
    rw [if_neg c] at q
    first
    | exact q
    | exact fun p hp => q p hp
section
variable {P : Program} {w : World} {K : PySem.W.Frag} {mg : Str → Option Value} {base : Heap} {f kw C fI CH : Addr} {fd : FuncData}
theorem ok_read_house (T : HT P K mg kw C fI) (M : MB mg) (F : FnP K "read_house" s_read_house f fd)
    (C__read_goods : Callee P w K mg base (L2.CX P w) "_read_goods" ["words"] 4 (spReadGoods K C)) (C__read_members : Callee P w K mg base (L2.CX P w) "_read_members" ["words", "at", "goods"] 5 (spReadMembers K C))
    (C__names_of : Callee P w K mg base CX0 "_names_of" ["parts"] 1 (spNamesOf K)) (C__read_talks : Callee P w K mg base (L2.CX P w) "_read_talks" ["words", "at", "names"] 4 (spReadTalks K C))
    (C__read_recipes : Callee P w K mg base (L2.CX P w) "_read_recipes" ["words", "at", "goods", "names"] 6 (spReadRecipes K C)) (C__read_orders : Callee P w K mg base (L2.CX P w) "_read_orders" ["words", "at", "goods"] 5 (spReadOrders K C))
    (MH : MakeF P w K mg base CX0 "House" CH ["self", "goods", "members", "talks", "recipes", "orders"] [] 7 (spHInit K CH 5)) :
    FnOk P w K mg base (L2.CX P w) 9 f fd ["text"] (spReadHouse K C CH) := by
  refine F.ok sc_read_house (fun vs H Q E h => ?_) (fun cdv A outer s H vs Q E hr h => ⟨_, (pss_cons (ps_set (i := 1) sc_read_house.nd rfl (.inl rfl) (pe_ifExp (pt_truth (pv 0) (by intro _; rfl)) (pe_split (pv 0) pe_str) (pe_lst pa_nil)))
  (pss_cons (ps_asg (pe_callX C__read_goods (hr.mono (by first | decide | exact Nat.le_refl _ | omega)) (by rfl) (L2.passes_call (takes_of rfl rfl rfl rfl) (fun _ _ _ _ h => h)) (pa_cons (pv 1) pa_nil)) (pg_tup (by rfl) (pgs_cons (pg_name (i := 2) sc_read_house.nd rfl (.inl rfl)) (pgs_cons (pg_name (i := 3) sc_read_house.nd rfl (.inl rfl)) pgs_nil))))
  (pss_cons (ps_asg (pe_callX C__read_members (hr.mono (by first | decide | exact Nat.le_refl _ | omega)) (by rfl) (L2.passes_call (takes_of rfl rfl rfl rfl) (fun _ _ _ _ h => h)) (pa_cons (pv 1) (pa_cons (pv 3) (pa_cons (pv 2) pa_nil)))) (pg_tup (by rfl) (pgs_cons (pg_name (i := 4) sc_read_house.nd rfl (.inl rfl)) (pgs_cons (pg_name (i := 3) sc_read_house.nd rfl (.inl rfl)) pgs_nil))))
  (pss_cons (ps_set (i := 5) sc_read_house.nd rfl (.inl rfl) (pe_callC C__names_of (hr.mono (by first | decide | exact Nat.le_refl _ | omega)) (by rfl) (pa_cons (pv 4) pa_nil)))
  (pss_cons (ps_asg (pe_callX C__read_talks (hr.mono (by first | decide | exact Nat.le_refl _ | omega)) (by rfl) (L2.passes_call (takes_of rfl rfl rfl rfl) (fun _ _ _ _ h => h)) (pa_cons (pv 1) (pa_cons (pv 3) (pa_cons (pv 5) pa_nil)))) (pg_tup (by rfl) (pgs_cons (pg_name (i := 6) sc_read_house.nd rfl (.inl rfl)) (pgs_cons (pg_name (i := 3) sc_read_house.nd rfl (.inl rfl)) pgs_nil))))
  (pss_cons (ps_asg (pe_callX C__read_recipes (hr.mono (by first | decide | exact Nat.le_refl _ | omega)) (by rfl) (L2.passes_call (takes_of rfl rfl rfl rfl) (fun _ _ _ _ h => h)) (pa_cons (pv 1) (pa_cons (pv 3) (pa_cons (pv 2) (pa_cons (pv 5) pa_nil))))) (pg_tup (by rfl) (pgs_cons (pg_name (i := 7) sc_read_house.nd rfl (.inl rfl)) (pgs_cons (pg_name (i := 3) sc_read_house.nd rfl (.inl rfl)) pgs_nil))))
  (pss_cons (ps_asg (pe_callX C__read_orders (hr.mono (by first | decide | exact Nat.le_refl _ | omega)) (by rfl) (L2.passes_call (takes_of rfl rfl rfl rfl) (fun _ _ _ _ h => h)) (pa_cons (pv 1) (pa_cons (pv 3) (pa_cons (pv 2) pa_nil)))) (pg_tup (by rfl) (pgs_cons (pg_name (i := 8) sc_read_house.nd rfl (.inl rfl)) (pgs_cons (pg_name (i := 3) sc_read_house.nd rfl (.inl rfl)) pgs_nil))))
  (pss_cons (ps_if (pt_cmpR op_lt (pv 3) (pe_callB call_len_seq (by rfl) M.len (by decide +kernel) (pa_cons (pv 1) pa_nil)) (nomark _)) (pss_one (ps_raiseBt rfl (takes_of rfl rfl rfl rfl) T.bt (hr.mono (by first | decide | exact Nat.le_refl _ | omega) : Room (0 + 1) _) (pa_cons (pv 3) pa_nil) (by rfl))) pss_nil)
  (pss_one (ps_ret (pe_makeX MH (hr.mono (by decide)) (by rfl) pass0 (pa_cons (pv 2) (pa_cons (pv 4) (pa_cons (pv 6) (pa_cons (pv 7) (pa_cons (pv 8) pa_nil)))))))))))))))), ?_⟩)
  · obtain ⟨t, rfl, _⟩ := h
    rfl
  · obtain ⟨t, rfl, ht, hwl, hws, q⟩ := h
    have hs := sizeLine_eq
    have q0 : ∀ r, readHouse (wordsOf t) = r → (match r with
      | .ok h => ∀ (a : Addr) (H' G : Hp), H a = none → Same H H' → Reg H H' G [] → G a = none → h.Few → HouIn K CH G H' a h.parts → Q (.ref a) H'
      | .error e => ErrAt C H E e) := fun r e => by
      rw [← e]
      exact q
    generalize hr0 : readHouse (wordsOf t) = r0 at q
    have go := hr0
    unfold readHouse at go
    refine words_if (K := K) rfl ht fun W hW => ?_
    have sW : Same H (upd H W (.lst ((wordsOf t).map V.str))) := same_upd hW
    have eW : upd H W (.lst ((wordsOf t).map V.str)) W = some (.lst ((wordsOf t).map V.str)) := upd_same
    generalize upd H W (.lst ((wordsOf t).map V.str)) = H1 at sW eW ⊢
    have w1 : Ws K H1 W (wordsOf t) := ⟨.inl (.inl eW), hwl, hws⟩
    refine ⟨_, rfl, W, wordsOf t, rfl, w1, ?_⟩
    generalize hg : readGoods (wordsOf t) = rg at go ⊢
    cases rg with
    | error e =>
      have z : ErrAt C H E e := q0 _ (hr0.trans go.symm)
      exact z.same sW
    | ok g =>
      dsimp only at go
      obtain ⟨fg1, fg2⟩ := goods_end hg
      have ez : ([] : List Str).length = 0 := rfl
      intro p1 v1 H2 s2 ep1 m1
      have s02 := sW.trans s2
      obtain ⟨G1, rG1, _, d1⟩ := join0 (reg0 (ex := [])) sW s2 m1
      cases d1 with
      | @lst ag xg _ sg dg =>
      have exg := strD_eq dg
      subst exg
      refine ⟨p1, _, rfl, .inl (.inl ep1), rfl, _, _, rfl, _, _, rfl, rfl, ?_⟩
      have sg2 := sqL_same rG1.sub sg
      refine ⟨_, rfl, _, rfl, _, rfl, W, ag, wordsOf t, g.2, g.1, rfl, ws_same s2 w1, by omega, sg2, by omega, ?_⟩
      generalize hm : readMembers (wordsOf t) g.2 g.1 = rm at go ⊢
      cases rm with
      | error e =>
        have z : ErrAt C H E e := q0 _ (hr0.trans go.symm)
        exact z.same s02
      | ok m =>
        dsimp only at go
        intro p2 v2 H3 s3 ep2 m2
        have s03 := s02.trans s3
        obtain ⟨fm1, fm2, fm3⟩ := memb_end (by omega) (fun m hm => by cases hm) hm
        have ezm : ([] : List Memb).length = 0 := rfl
        obtain ⟨G2, rG2, sgg2, d2⟩ := join0 rG1 s02 s3 m2
        cases d2 with
        | @lst am xm _ sm dm =>
        refine ⟨p2, _, rfl, .inl (.inl ep2), rfl, _, _, rfl, _, _, rfl, rfl, ?_⟩
        refine ⟨_, rfl, am, xm, membD m.1, m.1.map (·.1), rfl, .inl (sqL_same rG2.sub sm), dpa_same rG2.sub dm, memb_names m.1, (by rw [List.length_map]; omega), fun D H4 hD e4 => ?_⟩
        have sN : Same H3 H4 := by
          rw [e4]
          exact same_upd hD
        have eD : H4 D = some (.lst ((m.1.map (·.1)).map V.str)) := by
          rw [e4]
          exact upd_same
        clear e4
        have s04 := s03.trans sN
        have nl : (m.1.map (·.1)).length = m.1.length := List.length_map _
        refine ⟨_, rfl, _, rfl, _, rfl, W, D, wordsOf t, m.2, m.1.map (·.1), rfl, ws_same ((s2.trans s3).trans sN) w1, by omega, .inl (.inl eD), by omega, ?_⟩
        generalize htk : readTalks (wordsOf t) m.2 (m.1.map (·.1)) = rt at go ⊢
        cases rt with
        | error e =>
          have z : ErrAt C H E e := q0 _ (hr0.trans go.symm)
          exact z.same s04
        | ok tk =>
          dsimp only at go
          intro p3 v3 H5 s5 ep3 m3
          have s05 := s04.trans s5
          have ft := talks_end htk
          have fp : (preOf (m.1.map (·.1)).length (m.1.map (·.1)).length).length ≤ 2500 := by
            have z2 := pre_len (m.1.map (·.1)).length (m.1.map (·.1)).length
            have z3 : (m.1.map (·.1)).length * (m.1.map (·.1)).length ≤ 50 * 50 := Nat.mul_le_mul (by omega) (by omega)
            omega
          have ezt : ([] : List (Nat × Nat)).length = 0 := rfl
          obtain ⟨G3, rG3, sgg3, d3⟩ := join0 (rG2.more sN) s04 s5 m3
          refine ⟨p3, _, rfl, .inl (.inl ep3), rfl, _, _, rfl, _, _, rfl, rfl, ?_⟩
          have sg5 := sqL_same (((s3.trans sN).trans s5)) sg2
          refine ⟨_, rfl, _, rfl, _, rfl, _, rfl, W, ag, D, wordsOf t, tk.2, g.1, m.1.map (·.1), rfl, ws_same (((s2.trans s3).trans sN).trans s5) w1, by omega, sg5, by omega, .inl (.inl (s5 _ _ eD)), by omega, ?_⟩
          generalize hrc : readRecipes (wordsOf t) tk.2 g.1 (m.1.map (·.1)) = rr at go ⊢
          cases rr with
          | error e =>
            have z : ErrAt C H E e := q0 _ (hr0.trans go.symm)
            exact z.same s05
          | ok rc =>
            dsimp only at go
            intro p4 v4 H6 s6 ep4 m4
            have s06 := s05.trans s6
            obtain ⟨fr1, fr2, fr3⟩ := reci_end (by omega) (fun m hm => by cases hm) hrc
            have ezr : ([] : List Reci).length = 0 := rfl
            obtain ⟨G4, rG4, sgg4, d4⟩ := join0 rG3 s05 s6 m4
            refine ⟨p4, _, rfl, .inl (.inl ep4), rfl, _, _, rfl, _, _, rfl, rfl, ?_⟩
            refine ⟨_, rfl, _, rfl, _, rfl, W, ag, wordsOf t, rc.2, g.1, rfl, ws_same ((((s2.trans s3).trans sN).trans s5).trans s6) w1, by omega, sqL_same s6 sg5, by omega, ?_⟩
            generalize hod : readOrders (wordsOf t) rc.2 g.1 = ro at go ⊢
            cases ro with
            | error e =>
              have z : ErrAt C H E e := q0 _ (hr0.trans go.symm)
              exact z.same s06
            | ok od =>
              dsimp only at go
              intro p5 v5 H7 s7 ep5 m5
              have s07 := s06.trans s7
              obtain ⟨fo1, fo2, fo3⟩ := ord_end (by omega) (fun m hm => by cases hm) hod
              have ezo : ([] : List Ordr).length = 0 := rfl
              obtain ⟨G5, rG5, sgg5, d5⟩ := join0 rG4 s06 s7 m5
              refine ⟨p5, _, rfl, .inl (.inl ep5), rfl, _, _, rfl, _, _, rfl, rfl, ?_⟩
              have w7 : Ws K H7 W (wordsOf t) := ws_same (((((s2.trans s3).trans sN).trans s5).trans s6).trans s7) w1
              refine ⟨_, rfl, _, rfl, _, _, rfl, .inl w7.sq, _, _, rfl, rfl, _, rfl, ?_⟩
              rw [List.length_map]
              by_cases c : od.2 < (wordsOf t).length
              · rw [if_pos c] at go
                refine ifT (decide_eq_true (by omega)) ?_
                have z : ErrAt C H E od.2 := q0 _ (hr0.trans go.symm)
                exact ⟨_, rfl, od.2, rfl, nat_log (by omega), (z.same s07).here⟩
              · rw [if_neg c] at go
                refine ifF (decide_eq_false (by omega)) ?_
                have qf := q0 _ (hr0.trans go.symm)
                have few : Hous.Few ⟨g.1, m.1, tk.1, rc.1, od.1⟩ := ⟨by show g.1.length ≤ 4; omega, by show m.1.length ≤ 5; omega, fm3, by show tk.1.length ≤ 2500; omega, by show rc.1.length ≤ 3; omega, fr3, by show od.1.length ≤ 4; omega, fo3⟩
                refine ⟨_, rfl, _, rfl, _, rfl, _, rfl, _, rfl, fun x dx hx hdx hne => ?_⟩
                have sB : Same H7 (upd (upd H7 dx (.own x)) x (.ins CH dx [])) := (same_upd hdx).trans (same_upd (by rw [upd_ne hne.symm]; exact hx))
                have dd1 : Dp K G5 (.ref ag) (.list (strD g.1)) := dp_same (((sgg2.trans sgg3).trans sgg4).trans sgg5) (.lst sg dg)
                have dd2 : Dp K G5 (.ref am) (.list (membD m.1)) := dp_same ((sgg3.trans sgg4).trans sgg5) (.lst sm dm)
                have sG := rG5.sub.trans sB
                refine ⟨x, dx, .ref ag, .ref am, v3, v4, v5, Hous.parts ⟨g.1, m.1, tk.1, rc.1, od.1⟩, rfl, upd_same, dp_same sG dd1, dp_same sG dd2, dp_same sG (dp_same (sgg4.trans sgg5) d3), dp_same sG (dp_same sgg5 d4), dp_same sG d5, few.fits, fun H8 G8 k8 r8 hin => ⟨rfl, ?_⟩⟩
                have hxn : H x = none := by
                  cases e : H x with
                  | none => rfl
                  | some o =>
                    have z := s07 _ _ e
                    rw [hx] at z
                    cases z
                refine qf x H8 G8 hxn (fun b o e => ?_) (r8.base (s07.trans sB)) (r8.out x (by simp)) few hin
                exact k8 b o (ne_of_none e hxn) (sB _ _ (s07 _ _ e))
end

/-! ### the words that write a house -/
def natS (n : Nat) : Str := Str.ofString (toString ((n : Nat) : Int))
def amountWords (key : Str) (gs : List Str) (l : List (Nat × Nat)) : List Str := l.flatMap fun p => [key, gs.getD p.1 Str.empty, natS p.2]
/-- indexes that are there, numbers that are small -/
def AmtOk (n : Nat) (l : List (Nat × Nat)) : Prop := ∀ p ∈ l, p.1 < n ∧ p.2 ≤ 1000000
def spAmountWords (K : PySem.W.Frag) : Sp := fun vs H Q _ => ∃ (key : Str) (g a : Addr) (gs : List Str) (l : List (Nat × Nat)), vs = [.str key, .ref g, .ref a] ∧ SqT K H g (gs.map V.str) ∧ Dp K H (.ref a) (.tuple (amtD l)) ∧ AmtOk gs.length l ∧ l.length ≤ 10000 ∧
  ∀ (D : Addr) (H' : Hp), H D = none → Same H H' → H' D = some (.lst ((amountWords key gs l).map V.str)) → Q (.ref D) H'
theorem amtD_get {K : PySem.W.Frag} {H : Hp} {xs : List V} {l : List (Nat × Nat)} {i : Nat} {x : V} (h : DpAll K H xs (amtD l)) (hx : xs[i]? = some x) : ∃ (p : Nat × Nat) (b : Addr), l[i]? = some p ∧ x = .ref b ∧ SqT K H b [.int (p.1 : Nat), .int (p.2 : Nat)] := by
  have hl := dpa_len h
  have hi : i < (amtD l).length := by
    have := (List.getElem?_eq_some_iff.mp hx).1
    omega
  obtain ⟨v, d, h1, h2, h3, h4⟩ := dpa_get h hi
  obtain rfl : v = x := Option.some.inj (h1.symm.trans hx)
  unfold amtD at h2
  rw [List.getElem?_map] at h2
  cases e : l[i]? with
  | none =>
    rw [e] at h2
    cases h2
  | some p =>
    rw [e] at h2
    obtain rfl := Option.some.inj h2
    cases h4 with
    | @tup b ys _ hs hd =>
      cases hd with
      | cons a1 a2 =>
        cases a1
        cases a2 with
        | cons b1 b2 =>
          cases b1
          cases b2
          exact ⟨p, b, rfl, rfl, hs⟩
theorem flat_take {α β : Type} {l : List α} {f : α → List β} {i : Nat} {p : α} (h : l[i]? = some p) : (l.take (i + 1)).flatMap f = (l.take i).flatMap f ++ f p := by
  obtain ⟨hi, he⟩ := List.getElem?_eq_some_iff.mp h
  rw [List.take_succ_eq_append_getElem hi, he, List.flatMap_append]
  simp
theorem flat3 {α β : Type} {f : α → List β} (h : ∀ a, (f a).length = 3) : ∀ l : List α, (l.flatMap f).length = 3 * l.length
  | [] => rfl
  | a :: l => by
    rw [List.flatMap_cons, List.length_append, h, flat3 h l, List.length_cons]
    omega
section
variable {P : Program} {w : World} {K : PySem.W.Frag} {mg : Str → Option Value} {base : Heap} {f : Addr} {fd : FuncData}
theorem ok__amount_words (M : MB mg) (F : FnP K "_amount_words" s__amount_words f fd) : FnOk P w K mg base CX0 1 f fd ["key", "goods", "amounts"] (spAmountWords K) := by
  refine F.ok sc__amount_words (fun vs H Q E h => ?_) (fun cdv A outer s H vs Q E hr h => ⟨_, PSs.nox (pss_cons (ps_set (i := 3) sc__amount_words.nd rfl (.inl rfl) (pe_lst pa_nil))
  (pss_cons (ps_for PassesOwn.never rfl (pi_tup (pv 2)) (pg_tup (by rfl) (pgs_cons (pg_name (i := 4) sc__amount_words.nd rfl (.inl rfl)) (pgs_cons (pg_name (i := 5) sc__amount_words.nd rfl (.inl rfl)) pgs_nil))) (pss_one (ps_expr (pe_bm PySem.F.plainAttrs_list PySem.F.slot_list_extend PySem.F.type_list_extend mt_extend (pv 3) (pa_cons (pe_lst (pa_cons (pv 0) (pa_cons (pe_ix (show IxR _ (rIxT K) from ix_tup) (pv 1) (pv 4) (fun _ _ => rfl)) (pa_cons (pe_callTy call_str_int (by rfl) M.str (by decide +kernel) (pa_cons (pv 5) pa_nil)) pa_nil)))) pa_nil)))))
  (pss_one (ps_ret (pv 3))))), ?_⟩)
  · obtain ⟨key, g, a, gs, l, rfl, _⟩ := h
    rfl
  · obtain ⟨key, g, a, gs, l, rfl, hg, ha, ok, hl, q⟩ := h
    have hs := sizeLine_eq
    cases ha with
    | @tup _ xs _ hsq hd =>
    have lx := dpa_len hd
    have la : (amtD l).length = l.length := List.length_map _
    refine ⟨(by show 0 ≤ sizeLine; omega), fun M hM => ?_⟩
    refine ⟨_, rfl, a, rfl, ⟨_, same_seqT (same_upd hM) hsq⟩, for_tup (K := K) (a := a) (xs := xs) (fun i σ H' => (∃ z1 z2, σ = [some (.str key), some (.ref g), some (.ref a), some (.ref M), z1, z2]) ∧ Same H H' ∧ H' M = some (.lst ((amountWords key gs (l.take i)).map V.str))) ⟨⟨_, _, rfl⟩, same_upd hM, upd_same⟩ (fun i σ H' _ h => same_seqT h.2.1 hsq) ?_ ?_⟩
    · rintro i x σ H' hx ⟨⟨z1, z2, rfl⟩, sm, eM⟩
      obtain ⟨p, b, hp, rfl, hb⟩ := amtD_get hd hx
      obtain ⟨o1, o2⟩ := ok p (List.mem_of_getElem? hp)
      have hgk : (gs.map V.str)[p.1]? = some (V.str (gs.getD p.1 Str.empty)) := by
        rw [List.getElem?_map, List.getElem?_eq_getElem o1, List.getD_eq_getElem?_getD, List.getElem?_eq_getElem o1]
        rfl
      refine ⟨b, _, rfl, same_seqT sm hb, rfl, _, _, rfl, _, _, rfl, rfl, ?_⟩
      refine ⟨_, rfl, tyL (.inl (.inl eM)), _, rfl, _, rfl, _, rfl, g, _, _, _, rfl, rfl, same_seqT sm hg, atI_nat hgk, _, rfl, _, rfl, nat_log o2, (by show 3 ≤ sizeLine; omega), fun B hB => ?_⟩
      dsimp only [tNil]
      have hMB : M ≠ B := ne_of_none eM hB
      have hlen : (amountWords key gs (l.take i)).length ≤ 30000 := by
        unfold amountWords
        rw [flat3 (fun _ => rfl), List.length_take]
        omega
      refine ⟨M, B, (amountWords key gs (l.take i)).map V.str, [.str key, .str (gs.getD p.1 Str.empty), .str (natS p.2)], rfl, rfl, by rw [upd_ne hMB]; exact eM, upd_same, by rw [List.length_map]; show _ + 3 ≤ _; omega, ?_⟩
      refine ⟨⟨_, _, rfl⟩, same_upd_new (sm.trans (same_upd hB)) hM, ?_⟩
      rw [upd_same]
      unfold amountWords
      rw [flat_take hp, List.map_append]
      rfl
    · rintro σ H' ⟨⟨z1, z2, rfl⟩, sm, eM⟩
      rw [lx, la, List.take_length] at eM
      exact ⟨_, rfl, q M H' hM sm eM⟩
end

/-! ### the words of a recipe -/
theorem tup_amt : ∀ l : List (Nat × Nat), tupDs (amtD l) = amtD l
  | [] => by unfold amtD; rw [List.map_nil, tupDs]
  | p :: l => by
    have ih := tup_amt l
    unfold amtD at ih ⊢
    rw [List.map_cons, tupDs, ih, tupD, tupDs, tupDs, tupDs, tupD, tupD]
theorem tup_nat : ∀ l : List Nat, tupDs (natD l) = natD l
  | [] => by unfold natD; rw [List.map_nil, tupDs]
  | p :: l => by
    have ih := tup_nat l
    unfold natD at ih ⊢
    rw [List.map_cons, tupDs, ih, tupD]
theorem tup_str : ∀ l : List Str, tupDs (strD l) = strD l
  | [] => by unfold strD; rw [List.map_nil, tupDs]
  | p :: l => by
    have ih := tup_str l
    unfold strD at ih ⊢
    rw [List.map_cons, tupDs, ih, tupD]
def reciT (o : Reci) : PyData := .tuple [.str o.name, .int (o.cost : Nat), .int (o.times : Nat), .tuple (natD o.needs), .tuple (amtD o.takes), .tuple (amtD o.gives)]
theorem tup_reci (o : Reci) : tupD (reciD1 o) = reciT o := by
  unfold reciD1 reciT
  simp only [tupD, tupDs, tup_amt, tup_nat]
structure Reci.Ok (ng nm : Nat) (r : Reci) : Prop where
  c : r.cost ≤ 1000000
  t : r.times ≤ 1000000
  n : ∀ k ∈ r.needs, k < nm
  nl : r.needs.length ≤ 1000
  a1 : AmtOk ng r.takes
  l1 : r.takes.length ≤ 1000
  a2 : AmtOk ng r.gives
  l2 : r.gives.length ≤ 1000
def needWords (names : List Str) (l : List Nat) : List Str := l.flatMap fun k => ["needs", names.getD k Str.empty]
def recipeHead (r : Reci) : List Str := [("recipe" : Str), r.name, ("cost" : Str), natS r.cost, ("times" : Str), natS r.times]
def recipeWords (gs names : List Str) (r : Reci) : List Str := ((recipeHead r ++ needWords names r.needs) ++ amountWords "takes" gs r.takes) ++ amountWords "gives" gs r.gives
theorem flat2 {α β : Type} {f : α → List β} (h : ∀ a, (f a).length = 2) : ∀ l : List α, (l.flatMap f).length = 2 * l.length
  | [] => rfl
  | a :: l => by
    rw [List.flatMap_cons, List.length_append, h, flat2 h l, List.length_cons]
    omega
theorem need_len (names : List Str) (l : List Nat) : (needWords names l).length = 2 * l.length := flat2 (fun _ => rfl) l
theorem amount_len (key : Str) (gs : List Str) (l : List (Nat × Nat)) : (amountWords key gs l).length = 3 * l.length := flat3 (fun _ => rfl) l
theorem natD_eq {K : PySem.W.Frag} {H : Hp} : ∀ {l : List Nat} {vs : List V}, DpAll K H vs (natD l) → vs = natV l
  | [], _, .nil => rfl
  | x :: l, _, .cons h t => by
    cases h
    rw [natD_eq (l := l) t]
    rfl
def spRecipeWords (K : PySem.W.Frag) : Sp := fun vs H Q _ => ∃ (g n : Addr) (v : V) (gs names : List Str) (r : Reci), vs = [.ref g, .ref n, v] ∧ SqT K H g (gs.map V.str) ∧ SqL K H n (names.map V.str) ∧ Dp K H v (reciT r) ∧ r.Ok gs.length names.length ∧
  ∀ (D : Addr) (H' : Hp), H D = none → Same H H' → H' D = some (.lst ((recipeWords gs names r).map V.str)) → Q (.ref D) H'
section
variable {P : Program} {w : World} {K : PySem.W.Frag} {mg : Str → Option Value} {base : Heap} {f : Addr} {fd : FuncData}
theorem ok__recipe_words (M : MB mg) (F : FnP K "_recipe_words" s__recipe_words f fd) (C__amount_words : Callee P w K mg base CX0 "_amount_words" ["key", "goods", "amounts"] 1 (spAmountWords K)) :
    FnOk P w K mg base CX0 2 f fd ["goods", "names", "recipe"] (spRecipeWords K) := by
  refine F.ok sc__recipe_words (fun vs H Q E h => ?_) (fun cdv A outer s H vs Q E hr h => ⟨_, PSs.nox (pss_cons (ps_asg (pv 2) (pg_tup (by rfl) (pgs_cons (pg_name (i := 3) sc__recipe_words.nd rfl (.inl rfl)) (pgs_cons (pg_name (i := 4) sc__recipe_words.nd rfl (.inl rfl)) (pgs_cons (pg_name (i := 5) sc__recipe_words.nd rfl (.inl rfl)) (pgs_cons (pg_name (i := 6) sc__recipe_words.nd rfl (.inl rfl)) (pgs_cons (pg_name (i := 7) sc__recipe_words.nd rfl (.inl rfl)) (pgs_cons (pg_name (i := 8) sc__recipe_words.nd rfl (.inl rfl)) pgs_nil))))))))
  (pss_cons (ps_set (i := 9) sc__recipe_words.nd rfl (.inl rfl) (pe_lst (pa_cons pe_str (pa_cons (pv 3) (pa_cons pe_str (pa_cons (pe_callTy call_str_int (by rfl) M.str (by decide +kernel) (pa_cons (pv 4) pa_nil)) (pa_cons pe_str (pa_cons (pe_callTy call_str_int (by rfl) M.str (by decide +kernel) (pa_cons (pv 5) pa_nil)) pa_nil))))))))
  (pss_cons (ps_for PassesOwn.never rfl (pi_tup (pv 6)) (pg_name (i := 10) sc__recipe_words.nd rfl (.inl rfl)) (pss_one (ps_expr (pe_bm PySem.F.plainAttrs_list PySem.F.slot_list_extend PySem.F.type_list_extend mt_extend (pv 9) (pa_cons (pe_lst (pa_cons pe_str (pa_cons (pe_ix ix_list (pv 1) (pv 10) (fun _ _ => rfl)) pa_nil))) pa_nil)))))
  (pss_cons (ps_expr (pe_bm PySem.F.plainAttrs_list PySem.F.slot_list_extend PySem.F.type_list_extend mt_extend (pv 9) (pa_cons (pe_callC C__amount_words (hr.mono (by first | decide | exact Nat.le_refl _ | omega)) (by rfl) (pa_cons pe_str (pa_cons (pv 0) (pa_cons (pv 7) pa_nil)))) pa_nil)))
  (pss_cons (ps_expr (pe_bm PySem.F.plainAttrs_list PySem.F.slot_list_extend PySem.F.type_list_extend mt_extend (pv 9) (pa_cons (pe_callC C__amount_words (hr.mono (by first | decide | exact Nat.le_refl _ | omega)) (by rfl) (pa_cons pe_str (pa_cons (pv 0) (pa_cons (pv 8) pa_nil)))) pa_nil)))
  (pss_one (ps_ret (pv 9)))))))), ?_⟩)
  · obtain ⟨g, n, v, gs, names, r, rfl, _⟩ := h
    rfl
  · obtain ⟨g, n, v, gs, names, r, rfl, hg, hn, hv, ok, q⟩ := h
    have hs := sizeLine_eq
    cases hv with
    | @tup a xs _ hsq hd =>
    cases hd with
    | cons a1 hd =>
    cases a1
    cases hd with
    | cons a2 hd =>
    cases a2
    cases hd with
    | cons a3 hd =>
    cases a3
    cases hd with
    | cons a4 hd =>
    cases hd with
    | cons a5 hd =>
    cases hd with
    | cons a6 hd =>
    cases hd
    cases a4 with
    | @tup an xn _ hsn hdn =>
    have exn := natD_eq hdn
    subst exn
    cases a5 with
    | @tup at_ xt _ hst hdt =>
    cases a6 with
    | @tup ag xg _ hsg hdg =>
    refine ⟨_, rfl, a, _, rfl, hsq, rfl, _, _, rfl, _, _, rfl, _, _, rfl, _, _, rfl, _, _, rfl, _, _, rfl, rfl, ?_⟩
    refine ⟨_, rfl, _, rfl, _, rfl, nat_log ok.c, _, rfl, _, rfl, nat_log ok.t, (by show 6 ≤ sizeLine; omega), fun M hM => ?_⟩
    have eM : upd H M (.lst [.str "recipe", .str r.name, .str "cost", .str (natS r.cost), .str "times", .str (natS r.times)]) M = some (.lst ((recipeHead r ++ needWords names (r.needs.take 0)).map V.str)) := upd_same
    have sM : Same H (upd H M (.lst [.str "recipe", .str r.name, .str "cost", .str (natS r.cost), .str "times", .str (natS r.times)])) := same_upd hM
    have nl : (natV r.needs).length = r.needs.length := List.length_map _
    have okn := ok.nl
    have ok1 := ok.l1
    have ok2 := ok.l2
    refine ⟨_, rfl, an, rfl, ⟨_, same_seqT sM hsn⟩, for_tup (K := K) (a := an) (xs := natV r.needs) (fun i σ H' => (∃ z1, σ = [some (.ref g), some (.ref n), some (.ref a), some (.str r.name), some (.int (r.cost : Nat)), some (.int (r.times : Nat)), some (.ref an), some (.ref at_), some (.ref ag), some (.ref M), z1]) ∧ Same H H' ∧
      H' M = some (.lst ((recipeHead r ++ needWords names (r.needs.take i)).map V.str))) ⟨⟨_, rfl⟩, sM, eM⟩ (fun i σ H' _ h => same_seqT h.2.1 hsn) ?_ ?_⟩
    · rintro i x σ H' hx ⟨⟨z1, rfl⟩, sm, eM'⟩
      unfold natV at hx
      rw [List.getElem?_map] at hx
      cases e : r.needs[i]? with
      | none =>
        rw [e] at hx
        cases hx
      | some k =>
        rw [e] at hx
        obtain rfl := Option.some.inj hx
        have o1 := ok.n k (List.mem_of_getElem? e)
        have hgk : (names.map V.str)[k]? = some (V.str (names.getD k Str.empty)) := by
          rw [List.getElem?_map, List.getElem?_eq_getElem o1, List.getD_eq_getElem?_getD, List.getElem?_eq_getElem o1]
          rfl
        refine ⟨_, rfl, tyL (.inl (.inl eM')), _, rfl, _, rfl, n, _, _, _, rfl, rfl, sqL_same sm hn, atI_nat hgk, (by show 2 ≤ sizeLine; omega), fun B hB => ?_⟩
        dsimp only [tNil]
        have hMB : M ≠ B := ne_of_none eM' hB
        have hlen : (recipeHead r ++ needWords names (r.needs.take i)).length ≤ 3000 := by
          rw [List.length_append, need_len, List.length_take]
          show 6 + _ ≤ _
          omega
        refine ⟨M, B, (recipeHead r ++ needWords names (r.needs.take i)).map V.str, [.str "needs", .str (names.getD k Str.empty)], rfl, rfl, by rw [upd_ne hMB]; exact eM', upd_same, by rw [List.length_map]; show _ + 2 ≤ _; omega, ?_⟩
        refine ⟨⟨_, rfl⟩, same_upd_new (sm.trans (same_upd hB)) hM, ?_⟩
        rw [upd_same]
        have z : needWords names (r.needs.take (i + 1)) = needWords names (r.needs.take i) ++ [("needs" : Str), names.getD k Str.empty] := flat_take e
        rw [z, ← List.append_assoc, List.map_append (l₁ := recipeHead r ++ _)]
        rfl
    · rintro σ H' ⟨⟨z1, rfl⟩, sm, eM'⟩
      rw [nl, List.take_length] at eM'
      have hlen : (recipeHead r ++ needWords names r.needs).length ≤ 3000 := by
        rw [List.length_append, need_len]
        show 6 + _ ≤ _
        omega
      refine ⟨_, rfl, tyL (.inl (.inl eM')), _, rfl, _, rfl, "takes", g, at_, gs, r.takes, rfl, same_seqT sm hg, .tup (same_seqT sm hst) (dpa_same sm hdt), ok.a1, by omega, fun D2 H2 hD2 s2 eD2 => ?_⟩
      dsimp only [tNil]
      have eM2 := s2 _ _ eM'
      refine ⟨M, D2, _, _, rfl, rfl, eM2, eD2, by rw [List.length_map, List.length_map, amount_len]; omega, ?_⟩
      rw [← List.map_append]
      have sK : Same H (upd H2 M (.lst (((recipeHead r ++ needWords names r.needs) ++ amountWords "takes" gs r.takes).map V.str))) := same_upd_new (sm.trans s2) hM
      have eK : upd H2 M (.lst (((recipeHead r ++ needWords names r.needs) ++ amountWords "takes" gs r.takes).map V.str)) M = some (.lst (((recipeHead r ++ needWords names r.needs) ++ amountWords "takes" gs r.takes).map V.str)) := upd_same
      generalize upd H2 M (.lst (((recipeHead r ++ needWords names r.needs) ++ amountWords "takes" gs r.takes).map V.str)) = H3 at sK eK ⊢
      refine ⟨_, rfl, tyL (.inl (.inl eK)), _, rfl, _, rfl, "gives", g, ag, gs, r.gives, rfl, same_seqT sK hg, .tup (same_seqT sK hsg) (dpa_same sK hdg), ok.a2, by omega, fun D4 H4 hD4 s4 eD4 => ?_⟩
      dsimp only [tNil]
      refine ⟨M, D4, _, _, rfl, rfl, s4 _ _ eK, eD4, by rw [List.length_map, List.length_map, List.length_append, amount_len, amount_len]; omega, ?_⟩
      rw [← List.map_append]
      exact ⟨_, rfl, q M _ hM (same_upd_new (sK.trans s4) hM) upd_same⟩
end

/-! ### house_text -/
def membT (l : List Memb) : List PyData := l.map fun m => .tuple [.str m.1, .tuple (amtD m.2)]
theorem tup_memb : ∀ l : List Memb, tupDs (membD l) = membT l
  | [] => by unfold membD membT; rw [List.map_nil, tupDs]; rfl
  | m :: l => by
    have ih := tup_memb l
    unfold membD membT at ih ⊢
    rw [List.map_cons, List.map_cons, tupDs, ih]
    simp only [tupD, tupDs, tup_amt]
theorem tup_recis : ∀ l : List Reci, tupDs (reciD l) = l.map reciT
  | [] => by unfold reciD; rw [List.map_nil, tupDs]; rfl
  | r :: l => by
    have ih := tup_recis l
    unfold reciD at ih ⊢
    rw [List.map_cons, List.map_cons, tupDs, ih, tup_reci]
def ordT1 (o : Ordr) : PyData := .tuple [.str o.name, .int (o.pay : Nat), .tuple (amtD o.takes)]
theorem tup_ord : ∀ l : List Ordr, tupDs (ordD l) = l.map ordT1
  | [] => by unfold ordD; rw [List.map_nil, tupDs]; rfl
  | r :: l => by
    have ih := tup_ord l
    unfold ordD at ih ⊢
    rw [List.map_cons, List.map_cons, tupDs, ih]
    unfold ordD1 ordT1
    simp only [tupD, tupDs, tup_amt]
theorem membT_names (l : List Memb) : (membT l).map nameD = (l.map (·.1)).map some := by
  unfold membT
  rw [List.map_map, List.map_map]
  rfl
/-- a house that can be written: indexes that are there, small numbers, short names, few parts -/
structure Hous.Ok (h : Hous) : Prop where
  g : h.goods.length ≤ 100
  m : h.members.length ≤ 100
  m1 : ∀ x ∈ h.members, AmtOk h.goods.length x.2 ∧ x.2.length ≤ 100
  t : h.talks.length ≤ 3000
  t1 : ∀ p ∈ h.talks, p.1 < h.members.length ∧ p.2 < h.members.length
  r : h.recipes.length ≤ 100
  r1 : ∀ x ∈ h.recipes, x.Ok h.goods.length h.members.length ∧ x.needs.length ≤ 100 ∧ x.takes.length ≤ 100 ∧ x.gives.length ≤ 100
  o : h.orders.length ≤ 100
  o1 : ∀ x ∈ h.orders, x.pay ≤ 1000000 ∧ AmtOk h.goods.length x.takes ∧ x.takes.length ≤ 100
def Hous.names (h : Hous) : List Str := h.members.map (·.1)
def goodWords (l : List Str) : List Str := l.flatMap fun x => [("good" : Str), x]
def membWords (gs : List Str) (l : List Memb) : List Str := l.flatMap fun m => [("member" : Str), m.1] ++ amountWords "has" gs m.2
def talkWords (names : List Str) (l : List (Nat × Nat)) : List Str := l.flatMap fun p => [("talk" : Str), names.getD p.1 Str.empty, names.getD p.2 Str.empty]
def reciWords (gs names : List Str) (l : List Reci) : List Str := l.flatMap (recipeWords gs names)
def ordWords (gs : List Str) (l : List Ordr) : List Str := l.flatMap fun o => [("order" : Str), o.name, ("pays" : Str), natS o.pay] ++ amountWords "takes" gs o.takes
def housWords (h : Hous) : List Str := (((goodWords h.goods ++ membWords h.goods h.members) ++ talkWords h.names h.talks) ++ reciWords h.goods h.names h.recipes) ++ ordWords h.goods h.orders
def spHouseText (K : PySem.W.Frag) (CH : Addr) : Sp := fun vs H Q _ => ∃ (a : Addr) (h : Hous), vs = [.ref a] ∧ HouIn K CH H H a h.parts ∧ h.Ok ∧ (housWords h).length ≤ 100000 ∧ ((housWords h).map (·.length)).sum ≤ 10000000 ∧
  ∀ H', Same H H' → Q (.str (Txt.join " " (housWords h))) H'
theorem flat_le {α β : Type} {f : α → List β} {k : Nat} : ∀ {l : List α}, (∀ a ∈ l, (f a).length ≤ k) → (l.flatMap f).length ≤ k * l.length
  | [], _ => Nat.zero_le _
  | a :: l, h => by
    have h1 := h a List.mem_cons_self
    have h2 := flat_le (l := l) fun b hb => h b (List.mem_cons_of_mem _ hb)
    rw [List.flatMap_cons, List.length_append, List.length_cons, Nat.mul_succ]
    omega
theorem flat_take_le {α β : Type} {f : α → List β} {k n : Nat} {l : List α} (h : ∀ a ∈ l, (f a).length ≤ k) (hl : l.length ≤ n) (i : Nat) : ((l.take i).flatMap f).length ≤ k * n := by
  refine Nat.le_trans (flat_le fun a ha => h a (List.mem_of_mem_take ha)) (Nat.mul_le_mul_left k ?_)
  rw [List.length_take]
  omega
/-- between the turns: the list of words at W is pre, all that stood stands -/
def HtI (H0 : Hp) (a N W : Addr) (pre : List Str) (σ : L2.St) (H' : Hp) : Prop := (∃ z3 z4 z5 z6 z7 z8 z9, σ = [some (.ref a), some (.ref N), some (.ref W), z3, z4, z5, z6, z7, z8, z9]) ∧ Same H0 H' ∧ H' W = some (.lst (pre.map V.str))
theorem ext_step {H0 H' H2 : Hp} {W : Addr} {pre zs : List Str} (s : Same H0 H') (s2 : Same H' H2) (hW : H0 W = none) :
    Same H0 (upd H2 W (.lst (pre.map V.str ++ zs.map V.str))) ∧ upd H2 W (.lst (pre.map V.str ++ zs.map V.str)) W = some (.lst ((pre ++ zs).map V.str)) :=
  ⟨same_upd_new (s.trans s2) hW, by rw [upd_same, List.map_append]⟩
theorem map_get {α : Type} {f : α → PyData} {K : PySem.W.Frag} {H : Hp} {xs : List V} {l : List α} {i : Nat} {x : V} (h : DpAll K H xs (l.map f)) (hx : xs[i]? = some x) : ∃ p, l[i]? = some p ∧ Dp K H x (f p) := by
  have hl := dpa_len h
  have hi : i < (l.map f).length := by
    have := (List.getElem?_eq_some_iff.mp hx).1
    omega
  obtain ⟨v, d, h1, h2, h3, h4⟩ := dpa_get h hi
  obtain rfl : v = x := Option.some.inj (h1.symm.trans hx)
  rw [List.getElem?_map] at h2
  cases e : l[i]? with
  | none =>
    rw [e] at h2
    cases h2
  | some p =>
    rw [e] at h2
    obtain rfl := Option.some.inj h2
    exact ⟨p, rfl, h4⟩
theorem name_get {l : List Str} {k : Nat} (h : k < l.length) : (l.map V.str)[k]? = some (V.str (l.getD k Str.empty)) := by
  rw [List.getElem?_map, List.getElem?_eq_getElem h, List.getD_eq_getElem?_getD, List.getElem?_eq_getElem h]
  rfl
section
variable {P : Program} {w : World} {K : PySem.W.Frag} {mg : Str → Option Value} {base : Heap} {f CH : Addr} {fd : FuncData}
theorem ok_house_text (T : HouT K mg CH) (M : MB mg) (F : FnP K "house_text" s_house_text f fd) (C__names_of : Callee P w K mg base CX0 "_names_of" ["parts"] 1 (spNamesOf K))
    (C__amount_words : Callee P w K mg base CX0 "_amount_words" ["key", "goods", "amounts"] 1 (spAmountWords K)) (C__recipe_words : Callee P w K mg base CX0 "_recipe_words" ["goods", "names", "recipe"] 2 (spRecipeWords K)) :
    FnOk P w K mg base CX0 3 f fd ["house"] (spHouseText K CH) := by
  refine F.ok sc_house_text (fun vs H Q E h => ?_) (fun cdv A outer s H vs Q E hr h => ⟨_, PSs.nox (pss_cons (ps_set (i := 1) sc_house_text.nd rfl (.inl rfl) (pe_callC C__names_of (hr.mono (by first | decide | exact Nat.le_refl _ | omega)) (by rfl) (pa_cons (pe_fld (pv 0) rfl) pa_nil)))
  (pss_cons (ps_set (i := 2) sc_house_text.nd rfl (.inl rfl) (pe_lst pa_nil))
  (pss_cons (ps_for PassesOwn.never rfl (pi_tup (pe_fld (pv 0) rfl)) (pg_name (i := 3) sc_house_text.nd rfl (.inl rfl)) (pss_one (ps_expr (pe_bm PySem.F.plainAttrs_list PySem.F.slot_list_extend PySem.F.type_list_extend mt_extend (pv 2) (pa_cons (pe_lst (pa_cons pe_str (pa_cons (pv 3) pa_nil))) pa_nil)))))
  (pss_cons (ps_for PassesOwn.never rfl (pi_tup (pe_fld (pv 0) rfl)) (pg_tup (by rfl) (pgs_cons (pg_name (i := 3) sc_house_text.nd rfl (.inl rfl)) (pgs_cons (pg_name (i := 4) sc_house_text.nd rfl (.inl rfl)) pgs_nil))) (pss_cons (ps_expr (pe_bm PySem.F.plainAttrs_list PySem.F.slot_list_extend PySem.F.type_list_extend mt_extend (pv 2) (pa_cons (pe_lst (pa_cons pe_str (pa_cons (pv 3) pa_nil))) pa_nil)))
  (pss_one (ps_expr (pe_bm PySem.F.plainAttrs_list PySem.F.slot_list_extend PySem.F.type_list_extend mt_extend (pv 2) (pa_cons (pe_callC C__amount_words (hr.mono (by first | decide | exact Nat.le_refl _ | omega)) (by rfl) (pa_cons pe_str (pa_cons (pe_fld (pv 0) rfl) (pa_cons (pv 4) pa_nil)))) pa_nil))))))
  (pss_cons (ps_for PassesOwn.never rfl (pi_tup (pe_fld (pv 0) rfl)) (pg_tup (by rfl) (pgs_cons (pg_name (i := 5) sc_house_text.nd rfl (.inl rfl)) (pgs_cons (pg_name (i := 6) sc_house_text.nd rfl (.inl rfl)) pgs_nil))) (pss_one (ps_expr (pe_bm PySem.F.plainAttrs_list PySem.F.slot_list_extend PySem.F.type_list_extend mt_extend (pv 2) (pa_cons (pe_lst (pa_cons pe_str (pa_cons (pe_ix ix_list (pv 1) (pv 5) (fun _ _ => rfl)) (pa_cons (pe_ix ix_list (pv 1) (pv 6) (fun _ _ => rfl)) pa_nil)))) pa_nil)))))
  (pss_cons (ps_for PassesOwn.never rfl (pi_tup (pe_fld (pv 0) rfl)) (pg_name (i := 7) sc_house_text.nd rfl (.inl rfl)) (pss_one (ps_expr (pe_bm PySem.F.plainAttrs_list PySem.F.slot_list_extend PySem.F.type_list_extend mt_extend (pv 2) (pa_cons (pe_callC C__recipe_words (hr.mono (by first | decide | exact Nat.le_refl _ | omega)) (by rfl) (pa_cons (pe_fld (pv 0) rfl) (pa_cons (pv 1) (pa_cons (pv 7) pa_nil)))) pa_nil)))))
  (pss_cons (ps_for PassesOwn.never rfl (pi_tup (pe_fld (pv 0) rfl)) (pg_tup (by rfl) (pgs_cons (pg_name (i := 3) sc_house_text.nd rfl (.inl rfl)) (pgs_cons (pg_name (i := 8) sc_house_text.nd rfl (.inl rfl)) (pgs_cons (pg_name (i := 9) sc_house_text.nd rfl (.inl rfl)) pgs_nil)))) (pss_cons (ps_expr (pe_bm PySem.F.plainAttrs_list PySem.F.slot_list_extend PySem.F.type_list_extend mt_extend (pv 2) (pa_cons (pe_lst (pa_cons pe_str (pa_cons (pv 3) (pa_cons pe_str (pa_cons (pe_callTy call_str_int (by rfl) M.str (by decide +kernel) (pa_cons (pv 8) pa_nil)) pa_nil))))) pa_nil)))
  (pss_one (ps_expr (pe_bm PySem.F.plainAttrs_list PySem.F.slot_list_extend PySem.F.type_list_extend mt_extend (pv 2) (pa_cons (pe_callC C__amount_words (hr.mono (by first | decide | exact Nat.le_refl _ | omega)) (by rfl) (pa_cons pe_str (pa_cons (pe_fld (pv 0) rfl) (pa_cons (pv 9) pa_nil)))) pa_nil))))))
  (pss_one (ps_ret (pe_join pe_str (pv 2))))))))))), ?_⟩)
  · obtain ⟨a, h, rfl, _⟩ := h
    rfl
  · obtain ⟨a, h, rfl, ⟨dx, u1, u2, u3, u4, u5, ea, d1, d2, d3, d4, d5⟩, ok, hwl, hws, q⟩ := h
    have hs := sizeLine_eq
    unfold Hous.parts at d1 d2 d3 d4 d5
    dsimp only at d1 d2 d3 d4 d5
    rw [tupD, tup_str] at d1
    rw [tupD, tup_memb] at d2
    rw [tupD, tup_amt] at d3
    rw [tupD, tup_recis] at d4
    rw [tupD, tup_ord] at d5
    cases d1 with
    | @tup a1 x1 _ q1 e1 =>
    cases d2 with
    | @tup a2 x2 _ q2 e2 =>
    cases d3 with
    | @tup a3 x3 _ q3 e3 =>
    cases d4 with
    | @tup a4 x4 _ q4 e4 =>
    cases d5 with
    | @tup a5 x5 _ q5 e5 =>
    have ex1 := strD_eq e1
    subst ex1
    have hm := ok.m
    refine ⟨_, rfl, a, CH, dx, _, _, rfl, ea, T.cl, T.n2, rfl, a2, x2, membT h.members, h.names, rfl, .inr q2, e2, membT_names _, (by unfold Hous.names; rw [List.length_map]; omega), fun N H1 hN e1' => ?_⟩
    have sN : Same H H1 := by
      rw [e1']
      exact same_upd hN
    have eN : H1 N = some (.lst (h.names.map V.str)) := by
      rw [e1']
      exact upd_same
    clear e1'
    have okg := ok.g
    have okt := ok.t
    have okr := ok.r
    have oko := ok.o
    have nlen : h.names.length = h.members.length := List.length_map _
    have b1 : ∀ i, (goodWords (h.goods.take i)).length ≤ 2 * 100 := flat_take_le (fun _ _ => Nat.le_refl _) okg
    have b2 : ∀ i, (membWords h.goods (h.members.take i)).length ≤ 302 * 100 := flat_take_le (fun m hm' => by
      have z := (ok.m1 m hm').2
      rw [List.length_append, amount_len]
      show 2 + _ ≤ _
      omega) hm
    have b3 : ∀ i, (talkWords h.names (h.talks.take i)).length ≤ 3 * 3000 := flat_take_le (fun _ _ => Nat.le_refl _) okt
    have b4 : ∀ i, (reciWords h.goods h.names (h.recipes.take i)).length ≤ 806 * 100 := flat_take_le (fun r hr' => by
      obtain ⟨_, z1, z2, z3⟩ := ok.r1 r hr'
      unfold recipeWords
      rw [List.length_append, List.length_append, List.length_append, need_len, amount_len, amount_len]
      show 6 + _ + _ + _ ≤ _
      omega) okr
    have b5 : ∀ i, (ordWords h.goods (h.orders.take i)).length ≤ 304 * 100 := flat_take_le (fun o ho' => by
      obtain ⟨_, _, z⟩ := ok.o1 o ho'
      rw [List.length_append, amount_len]
      show 4 + _ ≤ _
      omega) oko
    refine ⟨(by show 0 ≤ sizeLine; omega), fun W hW => ?_⟩
    have hWa : W ≠ a := fun z => by
      rw [z] at hW
      rw [sN _ _ ea] at hW
      cases hW
    have fa : ∀ H', Same H1 H' → H' a = some (.ins CH dx (houFs (.ref a1) (.ref a2) (.ref a3) (.ref a4) (.ref a5))) := fun H' s' => s' _ _ (sN _ _ ea)
    have s0 : Same H1 (upd H1 W (.lst [])) := same_upd hW
    -- goods
    refine ⟨_, rfl, a, CH, dx, _, _, rfl, fa _ s0, T.cl, T.n1, rfl, a1, rfl, ⟨_, same_seqT (sN.trans s0) q1⟩, for_tup (K := K) (a := a1) (xs := h.goods.map V.str) (fun i σ H' => HtI H1 a N W (goodWords (h.goods.take i)) σ H') ⟨⟨_, _, _, _, _, _, _, rfl⟩, s0, upd_same⟩ (fun i σ H' _ hh => same_seqT (sN.trans hh.2.1) q1) ?_ ?_⟩
    · rintro i x σ H' hx ⟨⟨z3, z4, z5, z6, z7, z8, z9, rfl⟩, sm, eW⟩
      obtain ⟨y, hy, rfl⟩ : ∃ y, h.goods[i]? = some y ∧ x = V.str y := by
        rw [List.getElem?_map] at hx
        cases e : h.goods[i]? with
        | none =>
          rw [e] at hx
          cases hx
        | some y =>
          rw [e] at hx
          exact ⟨y, rfl, (Option.some.inj hx).symm⟩
      refine ⟨_, rfl, tyL (.inl (.inl eW)), _, rfl, (by show 2 ≤ sizeLine; omega), fun B hB => ?_⟩
      dsimp only [tNil]
      have hWB : W ≠ B := ne_of_none eW hB
      have bb := b1 i
      refine ⟨W, B, (goodWords (h.goods.take i)).map V.str, [("good" : Str), y].map V.str, rfl, rfl, by rw [upd_ne hWB]; exact eW, upd_same, by rw [List.length_map, List.length_map]; show _ + 2 ≤ _; omega, ?_⟩
      obtain ⟨x1, x2⟩ := ext_step (pre := goodWords (h.goods.take i)) (zs := [("good" : Str), y]) sm (same_upd (o := .lst [.str "good", .str y]) hB) hW
      refine ⟨⟨_, _, _, _, _, _, _, rfl⟩, x1, ?_⟩
      refine x2.trans ?_
      have z : goodWords (h.goods.take (i + 1)) = goodWords (h.goods.take i) ++ [("good" : Str), y] := flat_take hy
      rw [z]
    rintro σ H' ⟨⟨z3, z4, z5, z6, z7, z8, z9, rfl⟩, sm, eW⟩
    rw [List.length_map, List.take_length] at eW
    have c1 : (goodWords h.goods).length ≤ 200 := by
      have z := b1 h.goods.length
      rw [List.take_length] at z
      exact z
    have eW0 : H' W = some (.lst ((goodWords h.goods ++ membWords h.goods (h.members.take 0)).map V.str)) := by
      rw [show goodWords h.goods ++ membWords h.goods (h.members.take 0) = goodWords h.goods from List.append_nil _]
      exact eW
    -- members
    refine ⟨_, rfl, a, CH, dx, _, _, rfl, fa _ sm, T.cl, T.n2, rfl, a2, rfl, ⟨_, same_seqT (sN.trans sm) q2⟩, for_tup (K := K) (a := a2) (xs := x2) (fun i σ H' => HtI H1 a N W (goodWords h.goods ++ membWords h.goods (h.members.take i)) σ H') ⟨⟨_, _, _, _, _, _, _, rfl⟩, sm, eW0⟩ (fun i σ H' _ hh => same_seqT (sN.trans hh.2.1) q2) ?_ ?_⟩
    · clear eW eW0 sm
      rintro i x σ H' hx ⟨⟨z3, z4, z5, z6, z7, z8, z9, rfl⟩, sm, eW⟩
      obtain ⟨m, hm', dm⟩ := map_get e2 hx
      cases dm with
      | @tup b xs _ qb hd =>
      cases hd with
      | cons d1 hd =>
      cases d1
      cases hd with
      | cons d2 hd =>
      cases hd
      obtain ⟨om1, om2⟩ := ok.m1 m (List.mem_of_getElem? hm')
      cases d2 with
      | @tup bh xh _ qh eh =>
      refine ⟨b, _, rfl, same_seqT (sN.trans sm) qb, rfl, _, _, rfl, _, _, rfl, rfl, ?_⟩
      refine ⟨_, rfl, tyL (.inl (.inl eW)), _, rfl, (by show 2 ≤ sizeLine; omega), fun B hB => ?_⟩
      dsimp only [tNil]
      have hWB : W ≠ B := ne_of_none eW hB
      have bb := b2 i
      refine ⟨W, B, (goodWords h.goods ++ membWords h.goods (h.members.take i)).map V.str, [("member" : Str), m.1].map V.str, rfl, rfl, by rw [upd_ne hWB]; exact eW, upd_same, by rw [List.length_map, List.length_map, List.length_append]; show _ + 2 ≤ _; omega, ?_⟩
      obtain ⟨x1, x2⟩ := ext_step (pre := goodWords h.goods ++ membWords h.goods (h.members.take i)) (zs := [("member" : Str), m.1]) sm (same_upd (o := .lst [.str "member", .str m.1]) hB) hW
      generalize upd (upd H' B (.lst [.str "member", .str m.1])) W _ = H3 at x1 x2 ⊢
      refine ⟨_, rfl, tyL (.inl (.inl x2)), _, rfl, a, CH, dx, _, _, rfl, fa _ x1, T.cl, T.n1, rfl, _, rfl, "has", a1, bh, h.goods, m.2, rfl, same_seqT (sN.trans x1) q1, .tup (same_seqT (sN.trans x1) qh) (dpa_same (sN.trans x1) eh), om1, by omega, fun D H4 hD s4 eD => ?_⟩
      dsimp only [tNil]
      refine ⟨W, D, _, (amountWords "has" h.goods m.2).map V.str, rfl, rfl, s4 _ _ x2, eD, by rw [List.length_map, List.length_map, List.length_append, List.length_append, amount_len]; show _ + _ + 2 + _ ≤ _; omega, ?_⟩
      obtain ⟨y1, y2⟩ := ext_step (pre := (goodWords h.goods ++ membWords h.goods (h.members.take i)) ++ [("member" : Str), m.1]) (zs := amountWords "has" h.goods m.2) x1 s4 hW
      refine ⟨⟨_, _, _, _, _, _, _, rfl⟩, y1, ?_⟩
      refine y2.trans ?_
      have z : membWords h.goods (h.members.take (i + 1)) = membWords h.goods (h.members.take i) ++ ([("member" : Str), m.1] ++ amountWords "has" h.goods m.2) := flat_take hm'
      rw [z]
      simp only [List.append_assoc]
    clear eW eW0 sm
    rintro σ H' ⟨⟨z3, z4, z5, z6, z7, z8, z9, rfl⟩, sm, eW⟩
    have c2 : (membWords h.goods h.members).length ≤ 30200 := by
      have z := b2 h.members.length
      rw [List.take_length] at z
      exact z
    have lx2 : x2.length = h.members.length := by
      have z := dpa_len e2
      unfold membT at z
      rw [List.length_map] at z
      exact z
    rw [lx2, List.take_length] at eW
    generalize hp1 : goodWords h.goods ++ membWords h.goods h.members = p1 at eW
    have l1 : p1.length ≤ 30400 := by
      rw [← hp1, List.length_append]
      omega
    have eW0 : H' W = some (.lst ((p1 ++ talkWords h.names (h.talks.take 0)).map V.str)) := by
      rw [show p1 ++ talkWords h.names (h.talks.take 0) = p1 from List.append_nil _]
      exact eW
    -- talks
    refine ⟨_, rfl, a, CH, dx, _, _, rfl, fa _ sm, T.cl, T.n3, rfl, a3, rfl, ⟨_, same_seqT (sN.trans sm) q3⟩, for_tup (K := K) (a := a3) (xs := x3) (fun i σ H' => HtI H1 a N W (p1 ++ talkWords h.names (h.talks.take i)) σ H') ⟨⟨_, _, _, _, _, _, _, rfl⟩, sm, eW0⟩ (fun i σ H' _ hh => same_seqT (sN.trans hh.2.1) q3) ?_ ?_⟩
    · clear eW eW0 sm
      rintro i x σ H' hx ⟨⟨z3, z4, z5, z6, z7, z8, z9, rfl⟩, sm, eW⟩
      obtain ⟨p, b, hp, rfl, hb⟩ := amtD_get e3 hx
      obtain ⟨o1, o2⟩ := ok.t1 p (List.mem_of_getElem? hp)
      have g1 := name_get (l := h.names) (k := p.1) (by omega)
      have g2 := name_get (l := h.names) (k := p.2) (by omega)
      have eN' : H' N = some (.lst (h.names.map V.str)) := sm _ _ eN
      refine ⟨b, _, rfl, same_seqT (sN.trans sm) hb, rfl, _, _, rfl, _, _, rfl, rfl, ?_⟩
      refine ⟨_, rfl, tyL (.inl (.inl eW)), _, rfl, _, rfl, N, _, _, _, rfl, rfl, .inl (.inl eN'), atI_nat g1, _, rfl, _, rfl, N, _, _, _, rfl, rfl, .inl (.inl eN'), atI_nat g2, (by show 3 ≤ sizeLine; omega), fun B hB => ?_⟩
      dsimp only [tNil]
      have hWB : W ≠ B := ne_of_none eW hB
      have bb := b3 i
      refine ⟨W, B, (p1 ++ talkWords h.names (h.talks.take i)).map V.str, [("talk" : Str), h.names.getD p.1 Str.empty, h.names.getD p.2 Str.empty].map V.str, rfl, rfl, by rw [upd_ne hWB]; exact eW, upd_same, by rw [List.length_map, List.length_map, List.length_append]; show _ + 3 ≤ _; omega, ?_⟩
      obtain ⟨x1, x2⟩ := ext_step (pre := p1 ++ talkWords h.names (h.talks.take i)) (zs := [("talk" : Str), h.names.getD p.1 Str.empty, h.names.getD p.2 Str.empty]) sm (same_upd (o := .lst [.str "talk", .str (h.names.getD p.1 Str.empty), .str (h.names.getD p.2 Str.empty)]) hB) hW
      refine ⟨⟨_, _, _, _, _, _, _, rfl⟩, x1, x2.trans ?_⟩
      have z : talkWords h.names (h.talks.take (i + 1)) = talkWords h.names (h.talks.take i) ++ [("talk" : Str), h.names.getD p.1 Str.empty, h.names.getD p.2 Str.empty] := flat_take hp
      rw [z, List.append_assoc]
    clear eW eW0 sm
    rintro σ H' ⟨⟨z3, z4, z5, z6, z7, z8, z9, rfl⟩, sm, eW⟩
    have c3 : (talkWords h.names h.talks).length ≤ 9000 := by
      have z := b3 h.talks.length
      rw [List.take_length] at z
      exact z
    have lx3 : x3.length = h.talks.length := by
      have z := dpa_len e3
      unfold amtD at z
      rw [List.length_map] at z
      exact z
    rw [lx3, List.take_length] at eW
    generalize hp2 : p1 ++ talkWords h.names h.talks = p2 at eW
    have l2 : p2.length ≤ 39400 := by
      rw [← hp2, List.length_append]
      omega
    have eW0 : H' W = some (.lst ((p2 ++ reciWords h.goods h.names (h.recipes.take 0)).map V.str)) := by
      rw [show p2 ++ reciWords h.goods h.names (h.recipes.take 0) = p2 from List.append_nil _]
      exact eW
    -- recipes
    refine ⟨_, rfl, a, CH, dx, _, _, rfl, fa _ sm, T.cl, T.n4, rfl, a4, rfl, ⟨_, same_seqT (sN.trans sm) q4⟩, for_tup (K := K) (a := a4) (xs := x4) (fun i σ H' => HtI H1 a N W (p2 ++ reciWords h.goods h.names (h.recipes.take i)) σ H') ⟨⟨_, _, _, _, _, _, _, rfl⟩, sm, eW0⟩ (fun i σ H' _ hh => same_seqT (sN.trans hh.2.1) q4) ?_ ?_⟩
    · clear eW eW0 sm
      rintro i x σ H' hx ⟨⟨z3, z4, z5, z6, z7, z8, z9, rfl⟩, sm, eW⟩
      obtain ⟨r, hr', dr⟩ := map_get e4 hx
      obtain ⟨or1, or2, or3, or4⟩ := ok.r1 r (List.mem_of_getElem? hr')
      have eN' : H' N = some (.lst (h.names.map V.str)) := sm _ _ eN
      refine ⟨_, rfl, tyL (.inl (.inl eW)), _, rfl, a, CH, dx, _, _, rfl, fa _ sm, T.cl, T.n1, rfl, _, rfl, _, rfl, a1, N, x, h.goods, h.names, r, rfl, same_seqT (sN.trans sm) q1, .inl (.inl eN'), dp_same (sN.trans sm) dr, (by rw [nlen]; exact or1), fun D H4 hD s4 eD => ?_⟩
      dsimp only [tNil]
      have bb := b4 i
      have rl : (recipeWords h.goods h.names r).length ≤ 806 := by
        unfold recipeWords
        rw [List.length_append, List.length_append, List.length_append, need_len, amount_len, amount_len]
        show 6 + _ + _ + _ ≤ _
        omega
      refine ⟨W, D, (p2 ++ reciWords h.goods h.names (h.recipes.take i)).map V.str, (recipeWords h.goods h.names r).map V.str, rfl, rfl, s4 _ _ eW, eD, by rw [List.length_map, List.length_map, List.length_append]; omega, ?_⟩
      obtain ⟨y1, y2⟩ := ext_step (pre := p2 ++ reciWords h.goods h.names (h.recipes.take i)) (zs := recipeWords h.goods h.names r) sm s4 hW
      refine ⟨⟨_, _, _, _, _, _, _, rfl⟩, y1, y2.trans ?_⟩
      have z : reciWords h.goods h.names (h.recipes.take (i + 1)) = reciWords h.goods h.names (h.recipes.take i) ++ recipeWords h.goods h.names r := flat_take hr'
      rw [z, List.append_assoc]
    clear eW eW0 sm
    rintro σ H' ⟨⟨z3, z4, z5, z6, z7, z8, z9, rfl⟩, sm, eW⟩
    have c4 : (reciWords h.goods h.names h.recipes).length ≤ 80600 := by
      have z := b4 h.recipes.length
      rw [List.take_length] at z
      exact z
    have lx4 : x4.length = h.recipes.length := by
      have z := dpa_len e4
      rw [List.length_map] at z
      exact z
    rw [lx4, List.take_length] at eW
    generalize hp3 : p2 ++ reciWords h.goods h.names h.recipes = p3 at eW
    have l3 : p3.length ≤ 120000 := by
      rw [← hp3, List.length_append]
      omega
    have eW0 : H' W = some (.lst ((p3 ++ ordWords h.goods (h.orders.take 0)).map V.str)) := by
      rw [show p3 ++ ordWords h.goods (h.orders.take 0) = p3 from List.append_nil _]
      exact eW
    -- orders
    refine ⟨_, rfl, a, CH, dx, _, _, rfl, fa _ sm, T.cl, T.n5, rfl, a5, rfl, ⟨_, same_seqT (sN.trans sm) q5⟩, for_tup (K := K) (a := a5) (xs := x5) (fun i σ H' => HtI H1 a N W (p3 ++ ordWords h.goods (h.orders.take i)) σ H') ⟨⟨_, _, _, _, _, _, _, rfl⟩, sm, eW0⟩ (fun i σ H' _ hh => same_seqT (sN.trans hh.2.1) q5) ?_ ?_⟩
    · clear eW eW0 sm
      rintro i x σ H' hx ⟨⟨z3, z4, z5, z6, z7, z8, z9, rfl⟩, sm, eW⟩
      obtain ⟨o, ho', dm⟩ := map_get e5 hx
      cases dm with
      | @tup b xs _ qb hd =>
      cases hd with
      | cons d1 hd =>
      cases d1
      cases hd with
      | cons d2 hd =>
      cases d2
      cases hd with
      | cons d3 hd =>
      cases hd
      obtain ⟨oo1, oo2, oo3⟩ := ok.o1 o (List.mem_of_getElem? ho')
      cases d3 with
      | @tup bh xh _ qh eh =>
      refine ⟨b, _, rfl, same_seqT (sN.trans sm) qb, rfl, _, _, rfl, _, _, rfl, _, _, rfl, rfl, ?_⟩
      refine ⟨_, rfl, tyL (.inl (.inl eW)), _, rfl, _, rfl, _, rfl, nat_log oo1, (by show 4 ≤ sizeLine; omega), fun B hB => ?_⟩
      dsimp only [tNil]
      have hWB : W ≠ B := ne_of_none eW hB
      have bb := b5 i
      refine ⟨W, B, (p3 ++ ordWords h.goods (h.orders.take i)).map V.str, [("order" : Str), o.name, ("pays" : Str), natS o.pay].map V.str, rfl, rfl, by rw [upd_ne hWB]; exact eW, upd_same, by rw [List.length_map, List.length_map, List.length_append]; show _ + 4 ≤ _; omega, ?_⟩
      obtain ⟨x1, x2⟩ := ext_step (pre := p3 ++ ordWords h.goods (h.orders.take i)) (zs := [("order" : Str), o.name, ("pays" : Str), natS o.pay]) sm (same_upd (o := .lst [.str "order", .str o.name, .str "pays", .str (Str.ofString (toString ((o.pay : Nat) : Int)))]) hB) hW
      generalize upd (upd H' B (.lst [.str "order", .str o.name, .str "pays", .str (Str.ofString (toString ((o.pay : Nat) : Int)))])) W _ = H3 at x1 x2 ⊢
      refine ⟨_, rfl, tyL (.inl (.inl x2)), _, rfl, a, CH, dx, _, _, rfl, fa _ x1, T.cl, T.n1, rfl, _, rfl, "takes", a1, bh, h.goods, o.takes, rfl, same_seqT (sN.trans x1) q1, .tup (same_seqT (sN.trans x1) qh) (dpa_same (sN.trans x1) eh), oo2, by omega, fun D H4 hD s4 eD => ?_⟩
      dsimp only [tNil]
      refine ⟨W, D, _, (amountWords "takes" h.goods o.takes).map V.str, rfl, rfl, s4 _ _ x2, eD, by rw [List.length_map, List.length_map, List.length_append, List.length_append, amount_len]; show _ + _ + 4 + _ ≤ _; omega, ?_⟩
      obtain ⟨y1, y2⟩ := ext_step (pre := (p3 ++ ordWords h.goods (h.orders.take i)) ++ [("order" : Str), o.name, ("pays" : Str), natS o.pay]) (zs := amountWords "takes" h.goods o.takes) x1 s4 hW
      refine ⟨⟨_, _, _, _, _, _, _, rfl⟩, y1, y2.trans ?_⟩
      have z : ordWords h.goods (h.orders.take (i + 1)) = ordWords h.goods (h.orders.take i) ++ ([("order" : Str), o.name, ("pays" : Str), natS o.pay] ++ amountWords "takes" h.goods o.takes) := flat_take ho'
      rw [z]
      simp only [List.append_assoc]
    clear eW eW0 sm
    rintro σ H' ⟨⟨z3, z4, z5, z6, z7, z8, z9, rfl⟩, sm, eW⟩
    have lx5 : x5.length = h.orders.length := by
      have z := dpa_len e5
      rw [List.length_map] at z
      exact z
    rw [lx5, List.take_length] at eW
    have hw : p3 ++ ordWords h.goods h.orders = housWords h := by
      rw [← hp3, ← hp2, ← hp1]
      rfl
    rw [hw] at eW
    refine ⟨⟨_, rfl⟩, _, rfl, " ", W, housWords h, rfl, rfl, .inl (.inl (.inl eW)), ?_, q _ (sN.trans sm)⟩
    have e1 : (" " : Str).length = 1 := by decide
    rw [e1]
    omega
end

/-! ### law k03: the text that is read and written, or the index -/
theorem pe_callSC {X : Cx} {CX : CXT} {k : Nat} {ps : List Str} {sp : Sp} {E : L2.St → XK} {x : Str} {p pos : Pos} {e : Expr} {es : List Expr} {t : TA} (C : Callee X.prog X.w X.K X.mg X.base CX x ps k sp) (hr : Room k X.A) (hg : Gl X x) (hx : ∀ σ, PassesAt CX X σ (E σ)) (ha : PA X (e :: es) t) (hdb : (x == ("__debug__" : Str)) = false := by decide)
    (he : starEach (e :: es) X.env = (false, eval e X.env) :: starEach es X.env := by rfl) (hpl : (backTo pos (starEach es X.env)).any (·.1) = false := by rfl) :
    PE X (.Call (.Name x p) (e :: es) [] pos) (tCallS sp E t) := by
  obtain ⟨f, fd, h1, h2, h3, h4⟩ := C.ex
  exact pe_callS h4 hr hg h1 h2 h3 hx ha hdb he hpl
theorem pe_joinK {X : Cx} {K : PySem.W.Frag} {o e : Expr} {to te : TE} {apos pos : Pos} (hK : X.K = K) (ho : PE X o to) (he : PE X e te) (hs : starEach [e] X.env = [(false, eval e X.env)] := by rfl) (hbase : attributeBase o "join" X.env (eval o X.env) = eval o X.env := by rfl) (hline : (apos.endLine == pos.line) = true := by rfl) :
    PE X (.Call (.Attribute o "join" apos) [e] [] pos) (tM1 (fun x xs H Q => ∃ a p, ∃ ys : List Str, x = .str a ∧ xs = [.ref p] ∧ (SqL K H p (ys.map V.str) ∨ SqT K H p (ys.map V.str)) ∧
      (ys.map (·.length)).sum + ys.length * a.length ≤ 16777216 ∧ Q (.str (Txt.join a ys)) H) to te) := by
  subst hK
  exact pe_join ho he hs hbase hline
/-- words that a text can be made of -/
structure TextOk (ws : List Str) : Prop where
  ne : ws ≠ []
  sp : ∀ x ∈ ws, 32 ∉ TL.tl x
  some_ : ∀ x ∈ ws, 1 ≤ x.length
  few : ws.length ≤ 1000
  short : ∀ x ∈ ws, x.length ≤ 100
theorem sum_le : ∀ {l : List Str}, (∀ x ∈ l, x.length ≤ 100) → (l.map (·.length)).sum ≤ 100 * l.length
  | [], _ => Nat.le_refl _
  | x :: l, h => by
    have h1 := h x List.mem_cons_self
    have h2 := sum_le (l := l) fun y hy => h y (List.mem_cons_of_mem _ hy)
    rw [List.map_cons, List.sum_cons, List.length_cons]
    omega
theorem join_short {ws : List Str} (h : TextOk ws) : (Txt.join " " ws).length ≤ 200000 := by
  rw [TL.join_eq]
  have z := StrLaws.join_length_le " " ws
  have z2 := sum_le h.short
  have z3 := h.few
  have e1 : (" " : Str).length = 1 := by decide
  rw [e1] at z
  omega
theorem words_join {ws : List Str} (h : TextOk ws) : wordsOf (Txt.join " " ws) = ws := by
  have e : Txt.split (Txt.join " " ws) " " = ws := TL.split_join (s := 32) (S := []) (by decide) (by decide +kernel) h.ne h.sp
  unfold wordsOf
  by_cases c : (Txt.join " " ws).length = 0
  · exfalso
    have z : Txt.join " " ws = Str.empty := by
      cases hj : Txt.join " " ws with
      | mk cps =>
        rw [hj] at c
        have z2 : cps.size = 0 := c
        have z3 : cps = #[] := Array.eq_empty_of_size_eq_zero z2
        rw [z3]
        rfl
    rw [z] at e
    have z4 : Txt.split Str.empty " " = [Str.empty] := by decide
    rw [z4] at e
    have z5 := h.some_ Str.empty (by rw [← e]; exact List.mem_singleton.mpr rfl)
    exact absurd z5 (by decide)
  · rw [if_neg c]
    exact e
/-- a house that is read can be written -/
structure Hous.Wr (h : Hous) : Prop where
  ok : h.Ok
  l : (housWords h).length ≤ 100000
  s : ((housWords h).map (·.length)).sum ≤ 10000000
def spLawAt (K : PySem.W.Frag) : Sp := fun vs H Q _ => ∃ (w : Addr) (ws : List Str), vs = [.ref w] ∧ SqL K H w (ws.map V.str) ∧ TextOk ws ∧
  (match readHouse ws with
    | .ok h => h.Wr ∧ ∀ H', Same H H' → Q (.str (Txt.join " " (housWords h))) H'
    | .error e => ∀ H', Same H H' → Q (.int (e : Nat)) H')
section
variable {P : Program} {w : World} {K : PySem.W.Frag} {mg : Str → Option Value} {base : Heap} {f kw C fI CH : Addr} {fd : FuncData}
theorem ok__law_at (T : HT P K mg kw C fI) (M : MB mg) (F : FnP K "_law_at" s__law_at f fd) (C_read_house : Callee P w K mg base (L2.CX P w) "read_house" ["text"] 9 (spReadHouse K C CH))
    (C_house_text : Callee P w K mg base CX0 "house_text" ["house"] 3 (spHouseText K CH)) : FnOk P w K mg base CX0 10 f fd ["words"] (spLawAt K) := by
  refine F.ok sc__law_at (fun vs H Q E h => ?_) (fun cdv A outer s H vs Q E hr h => ⟨_, PSs.nox (pss_one (ps_try_as (i := 1) (Wout := fun _ _ _ _ => False) rfl rfl sc__law_at.nd rfl rfl ⟨rfl, by decide, .inl T.bt.gC⟩ takes0 (fun W pn xe tk _ => (pss_one (ps_ret (pe_callC C_house_text (hr.mono (by first | decide | exact Nat.le_refl _ | omega)) (by rfl) (pa_cons (pe_callSC C_read_house (hr.mono (by decide)) (by rfl) (fun σ => passAt tk σ) (pa_cons (pe_joinK (K := K) rfl pe_str (pv 0)) pa_nil)) pa_nil))))) (fun a oe cls d pn hz hf => (pss_one (ps_ret (pe_atBt T.bt hz hf (pv 1))))))), ?_⟩)
  · obtain ⟨w, ws, rfl, _⟩ := h
    rfl
  · obtain ⟨w, ws, rfl, hw, ok, q⟩ := h
    have hs := sizeLine_eq
    have sl := sum_le ok.short
    have fw := ok.few
    have e1 : (" " : Str).length = 1 := by decide
    refine ⟨⟨_, rfl⟩, _, rfl, " ", w, ws, rfl, rfl, .inl hw, by rw [e1]; omega, ?_⟩
    have js := join_short ok
    refine ⟨Txt.join " " ws, rfl, by omega, by rw [words_join ok]; omega, by rw [words_join ok]; exact fun x hx => Nat.le_trans (ok.short x hx) (by decide), ?_⟩
    rw [words_join ok]
    generalize readHouse ws = r at q ⊢
    cases r with
    | ok h =>
      obtain ⟨wr, q⟩ := q
      rintro a H' G ha s1 r1 ga few ⟨dx, u1, u2, u3, u4, u5, ea, d1, d2, d3, d4, d5⟩
      exact ⟨a, h, rfl, ⟨dx, u1, u2, u3, u4, u5, ea, dp_same r1.sub d1, dp_same r1.sub d2, dp_same r1.sub d3, dp_same r1.sub d4, dp_same r1.sub d5⟩, wr.ok, wr.l, wr.s, fun H2 s2 => q H2 (s1.trans s2)⟩
    | error e =>
      intro H' d s1 hd
      refine ⟨true, T.bt.te, fun _ a ha => ?_, fun z => by cases z⟩
      exact ⟨_, rfl, rfl, rfl, d, _, rfl, upd_same, q _ (s1.trans (same_upd hd))⟩
end

/-! ### law k03: rows up to a bound -/
/-- what the law expects of the words: the index that is told, or that they are written again -/
def Good (ws : List Str) : Option Nat → Prop
  | some d => readHouse ws = .error d
  | none => ∃ h, readHouse ws = .ok h ∧ h.Wr ∧ housWords h = ws
/-- a list of lists of words, at rw -/
def RowsAt (H : Hp) (rw : Addr) (rws : List (List Str)) : Prop := ∃ as : List Addr, H rw = some (.lst (as.map V.ref)) ∧ as.length = rws.length ∧ ∀ (i : Nat) (r : List Str), rws[i]? = some r → ∃ a, as[i]? = some a ∧ H a = some (.lst (r.map V.str))
def dueOf (hs : List Str) (rws : List (List Str)) (u : Nat) : Option Nat := if u < rws.length then some (hs ++ (rws.take u).flatten).length else none
def spLawMany (K : PySem.W.Frag) : Sp := fun vs H Q _ => ∃ (hd rw rs : Addr) (hs : List Str) (rws : List (List Str)) (u : Nat) (re : List Str), vs = [.ref hd, .ref rw, .int (u : Nat), .ref rs] ∧ SqL K H hd (hs.map V.str) ∧ RowsAt H rw rws ∧ H rs = some (.lst (re.map V.str)) ∧
  rws.length ≤ 100 ∧ TextOk ((hs ++ rws.flatten) ++ re) ∧ Good ((hs ++ rws.flatten) ++ re) (dueOf hs rws u) ∧ ∀ H', Same H H' → Q (.bl true) H'
section
variable {P : Program} {w : World} {K : PySem.W.Frag} {mg : Str → Option Value} {base : Heap} {f kw C fI CH : Addr} {fd : FuncData}
theorem ok__law_many (M : MB mg) (F : FnP K "_law_many" s__law_many f fd) (C__law_at : Callee P w K mg base CX0 "_law_at" ["words"] 10 (spLawAt K))
    (C__law_same : Callee P w K mg base CX0 "_law_same" ["actual", "due"] 2 (spSame K 1)) : FnOk P w K mg base CX0 11 f fd ["head", "rows", "upper", "rest"] (spLawMany K) := by
  refine F.ok sc__law_many (fun vs H Q E h => ?_) (fun cdv A outer s H vs Q E hr h => ⟨_, PSs.nox (pss_cons (ps_set (i := 4) sc__law_many.nd rfl (.inl rfl) (pe_callTy call_list_of (by rfl) M.list (by decide +kernel) (pa_cons (pv 0) pa_nil)))
  (pss_cons (ps_set (i := 5) sc__law_many.nd rfl (.inl rfl) pe_non)
  (pss_cons (ps_for PassesOwn.never rfl (pi_range1 (by rfl) M.range (pa_cons (pe_callB call_len_seq (by rfl) M.len (by decide +kernel) (pa_cons (pv 1) pa_nil)) pa_nil)) (pg_name (i := 6) sc__law_many.nd rfl (.inl rfl)) (pss_cons (ps_if (pt_cmpR op_eq (pv 6) (pv 2) (nomark _)) (pss_one (ps_set (i := 5) sc__law_many.nd rfl (.inl rfl) (pe_callB call_len_seq (by rfl) M.len (by decide +kernel) (pa_cons (pv 4) pa_nil)))) pss_nil)
  (pss_one (ps_set (i := 4) sc__law_many.nd rfl (.inl rfl) (pe_op op_cat (pv 4) (pe_ix ix_list (pv 1) (pv 6) (fun _ _ => rfl)))))))
  (pss_cons (ps_set (i := 4) sc__law_many.nd rfl (.inl rfl) (pe_op op_cat (pv 4) (pv 3)))
  (pss_cons (ps_if (pt_cmpR op_isN (pv 5) pe_non (nomark _)) (pss_one (ps_set (i := 5) sc__law_many.nd rfl (.inl rfl) (pe_join pe_str (pv 4)))) pss_nil)
  (pss_one (ps_ret (pe_callC C__law_same (hr.mono (by first | decide | exact Nat.le_refl _ | omega)) (by rfl) (pa_cons (pe_callC C__law_at (hr.mono (by first | decide | exact Nat.le_refl _ | omega)) (by rfl) (pa_cons (pv 4) pa_nil)) (pa_cons (pv 5) pa_nil)))))))))), ?_⟩)
  · obtain ⟨hd, rw_, rs, hs, rws, u, re, rfl, _⟩ := h
    rfl
  · obtain ⟨hd, rw_, rs, hs, rws, u, re, rfl, hh, hr0, hre, hl, ok, good, q⟩ := h
    have hsz := sizeLine_eq
    obtain ⟨as, eR, lR, gR⟩ := hr0
    have okl := ok.few
    have full : ∀ i, (hs ++ (rws.take i).flatten).length ≤ 1000 := fun i => by
      have z : (hs ++ rws.flatten).length ≤ 1000 := by
        rw [List.length_append (bs := re)] at okl
        omega
      have z2 : rws.flatten = (rws.take i).flatten ++ (rws.drop i).flatten := by
        rw [← List.flatten_append, List.take_append_drop]
      rw [z2, ← List.append_assoc, List.length_append] at z
      omega
    refine ⟨_, rfl, hd, _, rfl, .inl hh, fun W0 hW0 => ?_⟩
    refine ⟨_, rfl, rw_, _, rfl, .inl (.inl (.inl (same_upd hW0 _ _ eR))), ((as.map V.ref).length : Nat), rfl, by omega, by rw [List.length_map]; omega, ?_⟩
    rw [Int.toNat_natCast, List.length_map, lR]
    refine for_range (lo := 0) (n := rws.length) (fun i σ H' => ∃ (p : Addr) (z : Option V), σ = [some (.ref hd), some (.ref rw_), some (.int (u : Nat)), some (.ref rs), some (.ref p), some (if u < i then .int (((hs ++ (rws.take u).flatten).length : Nat) : Int) else .non), z] ∧ Same H H' ∧ H' p = some (.lst ((hs ++ (rws.take i).flatten).map V.str)))
      ⟨W0, none, by rw [if_neg (Nat.not_lt_zero u)]; rfl, same_upd hW0, by rw [upd_same]; show _ = some (HO.lst ((hs ++ []).map V.str)); rw [List.append_nil]⟩ ?_ ?_
    · rintro i σ H' hi ⟨p, z, rfl, sm, eP⟩
      have ei : (0 : Int) + (i : Int) = ((i : Nat) : Int) := Int.zero_add _
      rw [ei]
      obtain ⟨r, hr1⟩ : ∃ r, rws[i]? = some r := ⟨rws[i], List.getElem?_eq_getElem hi⟩
      obtain ⟨b, hb1, hb2⟩ := gR i r hr1
      have fi := full i
      have nxt : ∀ (v : V), (v = if u < i + 1 then V.int (((hs ++ (rws.take u).flatten).length : Nat) : Int) else V.non) → tAsg (tOp rCat (tVar 4) (tOp (rIxL K) (tVar 1) (tVar 6))) (gName 4)
          { nx := fun σ H' => ∃ (p : Addr) (z : Option V), σ = [some (.ref hd), some (.ref rw_), some (.int (u : Nat)), some (.ref rs), some (.ref p), some (if u < i + 1 then .int (((hs ++ (rws.take u).flatten).length : Nat) : Int) else .non), z] ∧ Same H H' ∧ H' p = some (.lst ((hs ++ (rws.take (i + 1)).flatten).map V.str)), rt := Q }
          [some (.ref hd), some (.ref rw_), some (.int (u : Nat)), some (.ref rs), some (.ref p), some v, some (.int (i : Nat))] H' := by
        intro v hv
        refine ⟨_, rfl, _, rfl, _, rfl, rw_, _, _, _, rfl, rfl, .inl (.inl (sm _ _ eR)), atI_nat (j := i) (v := V.ref b) (by rw [List.getElem?_map, hb1]; rfl), p, b, _, _, rfl, rfl, eP, sm _ _ hb2, ?_, fun p2 hp2 => ?_⟩
        · have z := full (i + 1)
          obtain ⟨hk, he⟩ := List.getElem?_eq_some_iff.mp hr1
          rw [List.take_succ_eq_append_getElem hk, he, List.flatten_append, ← List.append_assoc, List.length_append] at z
          have z2 : [r].flatten = r := by simp
          rw [z2] at z
          rw [List.length_map, List.length_map]
          omega
        · refine ⟨p2, _, by rw [← hv]; rfl, sm.trans (same_upd hp2), ?_⟩
          rw [upd_same, ← List.map_append]
          obtain ⟨hk, he⟩ := List.getElem?_eq_some_iff.mp hr1
          rw [List.take_succ_eq_append_getElem hk, he, List.flatten_append, ← List.append_assoc]
          have z2 : [r].flatten = r := by simp
          rw [z2]
      refine ⟨_, rfl, _, rfl, rfl, _, rfl, ?_⟩
      by_cases c : u = i
      · refine ifT (decide_eq_true (by rw [c])) ?_
        refine ⟨_, rfl, _, _, rfl, .inl (.inl (.inl eP)), ?_⟩
        refine nxt _ ?_
        rw [if_pos (by omega), List.length_map, ← c]
      · refine ifF (decide_eq_false fun z => c (by
          have z1 : ((i : Nat) : Int) = ((u : Nat) : Int) := V.int.inj z
          omega)) ?_
        refine nxt _ ?_
        by_cases c2 : u < i
        · rw [if_pos c2, if_pos (by omega)]
        · rw [if_neg c2, if_neg (by omega)]
    · rintro σ H' ⟨p, z, rfl, sm, eP⟩
      rw [List.take_length] at eP
      refine ⟨_, rfl, _, rfl, p, rs, _, _, rfl, rfl, eP, sm _ _ hre, ?_, fun p2 hp2 => ?_⟩
      · rw [List.length_map, List.length_map, ← List.length_append]
        omega
      · have e2 : upd H' p2 (.lst ((hs ++ rws.flatten).map V.str ++ re.map V.str)) p2 = some (.lst (((hs ++ rws.flatten) ++ re).map V.str)) := by
          rw [upd_same, ← List.map_append]
        have s2 : Same H (upd H' p2 (.lst ((hs ++ rws.flatten).map V.str ++ re.map V.str))) := sm.trans (same_upd hp2)
        generalize upd H' p2 (.lst ((hs ++ rws.flatten).map V.str ++ re.map V.str)) = H2 at e2 s2 ⊢
        generalize hfl : (hs ++ rws.flatten) ++ re = ws at ok good e2
        unfold dueOf at good
        by_cases c : u < rws.length
        · rw [if_pos c] at good ⊢
          have g2 : readHouse ws = .error (hs ++ (rws.take u).flatten).length := good
          refine ⟨_, rfl, rfl, _, rfl, ifF (decide_eq_false fun z => by cases z) ?_⟩
          refine ⟨_, rfl, p2, ws, rfl, .inl (.inl e2), ok, ?_⟩
          rw [g2]
          exact fun H3 s3 => ⟨_, rfl, _, _, .int _, rfl, .int _, .int _, trivial, q H3 (s2.trans s3)⟩
        · rw [if_neg c] at good ⊢
          obtain ⟨h, g2, wr, hw⟩ := good
          refine ⟨_, rfl, rfl, _, rfl, ifT (decide_eq_true rfl) ?_⟩
          have sl := sum_le ok.short
          have fw2 := ok.few
          have e1 : (" " : Str).length = 1 := by decide
          refine ⟨⟨_, rfl⟩, _, rfl, " ", p2, ws, rfl, rfl, .inl (.inl (.inl e2)), by rw [e1]; omega, ?_⟩
          refine ⟨_, rfl, p2, ws, rfl, .inl (.inl e2), ok, ?_⟩
          rw [g2]
          refine ⟨wr, fun H3 s3 => ⟨_, rfl, _, _, .str (Txt.join " " ws), rfl, ?_, .str _, trivial, q H3 (s2.trans s3)⟩⟩
          rw [hw]
          exact .str _
end

/-! ### law k03: what is worked out at the law's inputs -/
def amtOkB (n : Nat) (l : List (Nat × Nat)) : Bool := l.all fun p => decide (p.1 < n) && decide (p.2 ≤ 1000000)
theorem amtOkB_ok {n : Nat} {l : List (Nat × Nat)} (h : amtOkB n l = true) : AmtOk n l := fun p hp => by
  have z := List.all_eq_true.mp h p hp
  obtain ⟨z1, z2⟩ := Bool.and_eq_true_iff.mp z
  exact ⟨of_decide_eq_true z1, of_decide_eq_true z2⟩
def reciB (ng nm : Nat) (r : Reci) : Bool := decide (r.cost ≤ 1000000) && (decide (r.times ≤ 1000000) && ((r.needs.all fun k => decide (k < nm)) && (decide (r.needs.length ≤ 100) && (amtOkB ng r.takes && (decide (r.takes.length ≤ 100) && (amtOkB ng r.gives && decide (r.gives.length ≤ 100)))))))
def okB (h : Hous) : Bool := decide (h.goods.length ≤ 100) && (decide (h.members.length ≤ 100) && ((h.members.all fun m => amtOkB h.goods.length m.2 && decide (m.2.length ≤ 100)) && (decide (h.talks.length ≤ 3000) && ((h.talks.all fun p => decide (p.1 < h.members.length) && decide (p.2 < h.members.length)) &&
  (decide (h.recipes.length ≤ 100) && ((h.recipes.all fun r => reciB h.goods.length h.members.length r) && (decide (h.orders.length ≤ 100) && (h.orders.all fun o => decide (o.pay ≤ 1000000) && (amtOkB h.goods.length o.takes && decide (o.takes.length ≤ 100))))))))))
theorem okB_ok {h : Hous} (e : okB h = true) : h.Ok := by
  unfold okB at e
  simp only [Bool.and_eq_true, decide_eq_true_eq, List.all_eq_true] at e
  obtain ⟨e1, e2, e3, e4, e5, e6, e7, e8, e9⟩ := e
  refine ⟨e1, e2, fun x hx => ⟨amtOkB_ok (e3 x hx).1, (e3 x hx).2⟩, e4, fun p hp => e5 p hp, e6, fun r hr => ?_, e8, fun o ho => ⟨(e9 o ho).1, amtOkB_ok (e9 o ho).2.1, (e9 o ho).2.2⟩⟩
  have z := e7 r hr
  unfold reciB at z
  simp only [Bool.and_eq_true, decide_eq_true_eq, List.all_eq_true] at z
  obtain ⟨z1, z2, z3, z4, z5, z6, z7, z8⟩ := z
  exact ⟨⟨z1, z2, z3, by omega, amtOkB_ok z5, by omega, amtOkB_ok z7, by omega⟩, z4, z6, z8⟩
def textB (ws : List Str) : Bool := !ws.isEmpty && (decide (ws.length ≤ 1000) && ws.all fun x => decide (32 ∉ TL.tl x) && (decide (1 ≤ x.length) && decide (x.length ≤ 100)))
theorem textB_ok {ws : List Str} (e : textB ws = true) : TextOk ws := by
  unfold textB at e
  simp only [Bool.and_eq_true, decide_eq_true_eq, List.all_eq_true] at e
  obtain ⟨e1, e2, e3⟩ := e
  refine ⟨fun z => (by rw [z] at e1; cases e1), fun x hx => (e3 x hx).1, fun x hx => (e3 x hx).2.1, e2, fun x hx => (e3 x hx).2.2⟩
def goodB (ws : List Str) (due : Option Nat) : Bool := textB ws && (match due, readHouse ws with
  | some d, .error e => decide (e = d)
  | none, .ok h => okB h && decide (housWords h = ws)
  | _, _ => false)
theorem goodB_ok {ws : List Str} {due : Option Nat} (e : goodB ws due = true) : TextOk ws ∧ Good ws due := by
  unfold goodB at e
  obtain ⟨e1, e2⟩ := Bool.and_eq_true_iff.mp e
  have t := textB_ok e1
  refine ⟨t, ?_⟩
  cases due with
  | some d =>
    cases hr : readHouse ws with
    | error i =>
      rw [hr] at e2
      have z : i = d := of_decide_eq_true e2
      show readHouse ws = .error d
      rw [hr, z]
    | ok h =>
      rw [hr] at e2
      cases e2
  | none =>
    cases hr : readHouse ws with
    | error i =>
      rw [hr] at e2
      cases e2
    | ok h =>
      rw [hr] at e2
      obtain ⟨z1, z2⟩ := Bool.and_eq_true_iff.mp e2
      have hw : housWords h = ws := of_decide_eq_true z2
      have sl := sum_le t.short
      have fw := t.few
      exact ⟨h, hr, ⟨okB_ok z1, by rw [hw]; omega, by rw [hw]; omega⟩, hw⟩
def gW : List Str := ["good", "wood", "good", "oats", "good", "wool", "good", "iron"]
def mW : List Str := ["member", "ann", "member", "bob", "member", "cat"]
def nW : List Str := ["a", "b", "c", "d", "e", "f", "g"]
def oW : List Str := ["order", "o", "pays", "1", "takes", "wood", "1"]
def helW : List (List Str) := [["has", "wood", "1"], ["has", "oats", "1"], ["has", "wool", "1"], ["has", "iron", "1"], ["has", "wood", "1"]]
def talW : List (List Str) := [["talk", "ann", "bob"], ["talk", "bob", "cat"], ["talk", "ann", "cat"], ["talk", "ann", "bob"]]
def needW : List (List Str) := [["needs", "ann"], ["needs", "cat"], ["needs", "bob"]]
/-- the law's many of head, rows, upper, rest -/
def manyB (hs : List Str) (rws : List (List Str)) (u : Nat) (re : List Str) : Bool := goodB ((hs ++ rws.flatten) ++ re) (dueOf hs rws u)
def headW : List Str := (gW ++ mW) ++ [("recipe" : Str), "r", "cost", "9999", "times", "1"]
theorem t1 : ([2, 3, 4, 5, 6].all fun k => manyB [] ((nW.take k).map fun n => [("good" : Str), n]) 4 ["member", "ann"]) = true := by decide +kernel
theorem t2 : ([2, 3, 4, 5, 6].all fun k => manyB ["good", "wood"] ((nW.take k).map fun n => [("member" : Str), n]) 5 oW) = true := by decide +kernel
theorem t3 : ([2, 3, 4, 5, 6].all fun k => manyB (gW ++ [("member" : Str), "ann"]) (helW.take k) 4 ["member", "bob"]) = true := by decide +kernel
theorem t4 : ([2, 3, 4, 5, 6].all fun k => manyB (gW ++ mW) (talW.take k) 3 oW) = true := by decide +kernel
theorem t5 : ([2, 3, 4, 5, 6].all fun k => manyB (gW ++ mW) ((nW.take k).map fun n => [("recipe" : Str), n, "cost", "0", "times", "4"]) 3 oW) = true := by decide +kernel
theorem t6 : ([2, 3, 4, 5, 6].all fun k => manyB headW (needW.take k) 2 ([("gives" : Str), "oats", "0"] ++ oW)) = true := by decide +kernel
theorem t7 : ([2, 3, 4, 5, 6].all fun k => manyB headW ((helW.map fun r => [("takes" : Str)] ++ r.drop 1).take k) 4 oW) = true := by decide +kernel
theorem t8 : ([2, 3, 4, 5, 6].all fun k => manyB headW ((helW.map fun r => [("gives" : Str)] ++ r.drop 1).take k) 4 oW) = true := by decide +kernel
theorem t9 : ([2, 3, 4, 5, 6].all fun k => manyB (gW ++ mW) ((nW.take k).map fun n => [("order" : Str), n] ++ oW.drop 2) 4 []) = true := by decide +kernel
theorem t10 : ([2, 3, 4, 5, 6].all fun k => manyB ((gW ++ mW) ++ oW.take 4) ((helW.map fun r => [("takes" : Str)] ++ r.drop 1).take k) 4 ([("order" : Str), "p"] ++ oW.drop 2)) = true := by decide +kernel
theorem t11 : ((List.range 8).all fun t => goodB ((gW ++ mW) ++ [("recipe" : Str), "r", "cost", "1", "times", natS t]) (if 0 < t ∧ t < 5 then none else some 19)) = true := by decide +kernel
def plW : Nat → List Str
  | 0 => gW ++ [("member" : Str), "ann", "has", "iron"]
  | 1 => (gW ++ mW) ++ [("recipe" : Str), "r", "cost"]
  | _ => (gW ++ mW) ++ oW.take 3
def reW : Nat → List Str
  | 0 => []
  | 1 => ["times", "2"]
  | _ => ["takes", "iron", "3"]
theorem t12 : ((List.range 20).all fun n => (List.range 3).all fun p => goodB ((plW p ++ [natS (9990 + n)]) ++ reW p) (if 9999 < 9990 + n then some (plW p).length else none) && goodB ((plW p ++ [natS n]) ++ reW p) none) = true := by decide +kernel

/-! ### rows of words made by a comprehension -/
/-- as RowsAt, none of the rows standing at D -/
def RowsOff (H : Hp) (D : Addr) (as : List Addr) (rws : List (List Str)) : Prop := as.length = rws.length ∧ ∀ (i : Nat) (r : List Str), rws[i]? = some r → ∃ a, as[i]? = some a ∧ a ≠ D ∧ H a = some (.lst (r.map V.str))
theorem RowsOff.same {H H' : Hp} {D : Addr} {as : List Addr} {rws : List (List Str)} (e : Same H H') (h : RowsOff H D as rws) : RowsOff H' D as rws := ⟨h.1, fun i r hr => by
  obtain ⟨a, h1, h2, h3⟩ := h.2 i r hr
  exact ⟨a, h1, h2, e _ _ h3⟩⟩
theorem RowsOff.upd {H : Hp} {D : Addr} {as : List Addr} {rws : List (List Str)} {o : HO} (h : RowsOff H D as rws) : RowsOff (L2.upd H D o) D as rws := ⟨h.1, fun i r hr => by
  obtain ⟨a, h1, h2, h3⟩ := h.2 i r hr
  exact ⟨a, h1, h2, by rw [upd_ne h2]; exact h3⟩⟩
theorem RowsOff.snoc {H : Hp} {D q : Addr} {as : List Addr} {rws : List (List Str)} {r : List Str} (h : RowsOff H D as rws) (hq : q ≠ D) (e : H q = some (.lst (r.map V.str))) : RowsOff H D (as ++ [q]) (rws ++ [r]) := by
  refine ⟨by rw [List.length_append, List.length_append, h.1]; rfl, fun i r' hr => ?_⟩
  by_cases c : i < rws.length
  · rw [List.getElem?_append_left c] at hr
    obtain ⟨a, h1, h2, h3⟩ := h.2 i r' hr
    exact ⟨a, by rw [List.getElem?_append_left (by rw [h.1]; exact c)]; exact h1, h2, h3⟩
  · rw [List.getElem?_append_right (by omega)] at hr
    have z : i - rws.length = 0 := by
      have := (List.getElem?_eq_some_iff.mp hr).1
      simp at this
      omega
    rw [z] at hr
    have er : r = r' := Option.some.inj hr
    subst er
    refine ⟨q, ?_, hq, e⟩
    rw [List.getElem?_append_right (by rw [h.1]; omega), h.1, z]
    rfl
/-- [row of x for x in xs]: each turn makes a new list of words -/
theorem lc_rows {K : PySem.W.Frag} {α : Type} {a : Addr} {f : α → V} {ss : List α} {g : α → List Str} {i : Nat} {te : TE} {vs : List Nat} {σ : L2.St} {H1 : Hp} {D : Addr} {Qd : Hp → Prop} (hl : ss.length ≤ 1000) (hs : SqL K H1 a (ss.map f)) (hD : H1 D = none)
    (hw : ∀ v : V, wipe ((wipe σ vs).set i (some v)) vs = wipe σ vs)
    (hte : ∀ (x : α) (H' : Hp) (Q' : VK), x ∈ ss → Same H1 H' → (∀ (q : Addr) (H2 : Hp), H' q = none → Same H' H2 → H2 q = some (.lst ((g x).map V.str)) → Q' (.ref q) H2) → te ((wipe σ vs).set i (some (f x))) H' Q')
    (q : ∀ (H' : Hp) (as : List Addr), Same H1 H' → H' D = some (.lst (as.map V.ref)) → RowsOff H' D as (ss.map g) → Qd H') :
    ∃ W : Nat → Nat → Hp → Prop, (∃ m, W 0 m (upd H1 D (.lst []))) ∧ ∀ k m H, W k m H →
      ((Itl K a).stop k H ∧ Qd H) ∨ ((Itl K a).go k H ∧ ∃ Nx : Hp → Prop, (∀ H', Nx H' → ∃ m', m' < m ∧ W (k + 1) m' H') ∧ ∀ x H', (Itl K a).yld k H x H' → gName i x (wipe σ vs) H' fun σ2 H2 => wipe σ2 vs = wipe σ vs ∧ tYes σ2 H2 fun b H3 =>
        if b = true then te σ2 H3 fun y H4 => ∃ acc, H4 D = some (.lst acc) ∧ acc.length < sizeLine ∧ Nx (upd H4 D (.lst (acc ++ [y]))) else Nx H3) := by
  have hz := sizeLine_eq
  refine lc_list (K := K) (a := a) (xs := ss.map f) (fun k H' => Same H1 H' ∧ ∃ as : List Addr, H' D = some (.lst (as.map V.ref)) ∧ RowsOff H' D as ((ss.take k).map g)) ⟨same_upd hD, [], upd_same, rfl, fun i r h => by cases h⟩ (fun k H' _ h => sqL_same h.1 hs) (fun k x H' hx h => ?_) (fun H' h => ?_)
  · obtain ⟨s1, as, e1, r1⟩ := h
    rw [List.getElem?_map] at hx
    cases e : ss[k]? with
    | none =>
      rw [e] at hx
      cases hx
    | some y =>
      rw [e] at hx
      obtain rfl := Option.some.inj hx
      obtain ⟨hk, he⟩ := List.getElem?_eq_some_iff.mp e
      refine ⟨hw _, yes_of (hte y H' _ (List.mem_of_getElem? e) s1 fun p H2 hp s2 e2 => ?_)⟩
      have e3 := s2 _ _ e1
      have hpD : p ≠ D := fun z => by
        rw [z, e1] at hp
        cases hp
      have lr := r1.1
      rw [List.length_map, List.length_take] at lr
      refine ⟨as.map V.ref, e3, by rw [List.length_map]; omega, same_upd_new (s1.trans s2) hD, as ++ [p], by rw [upd_same, List.map_append]; rfl, ?_⟩
      rw [List.take_succ_eq_append_getElem hk, he, List.map_append]
      exact ((r1.same s2).snoc hpD e2).upd
  · obtain ⟨s1, as, e1, r1⟩ := h
    rw [List.length_map, List.take_length] at r1
    exact q H' as s1 e1 r1
theorem RowsOff.at_ {H : Hp} {D : Addr} {as : List Addr} {rws : List (List Str)} (e : H D = some (.lst (as.map V.ref))) (h : RowsOff H D as rws) : RowsAt H D rws :=
  ⟨as, e, h.1, fun i r hr => by
    obtain ⟨a, h1, _, h3⟩ := h.2 i r hr
    exact ⟨a, h1, h3⟩⟩

/-! ### law k03 in pieces: what stands between them -/
abbrev XL3 (P : Program) (w : World) (K : PySem.W.Frag) (mg : Str → Option Value) (base : Heap) (f : Addr) (cdv : Value) (A : Around) (outer : List Env) (s : Shared) (H : Hp) (E : XK) : Cx :=
  (cxOf CX0 P w K mg base N_law "law" (defScope s_law) f cdv A outer s H E).nox
/-- the lists of words, the rows of what is held, the pool; k: how many -/
structure Md (P0 G M1 N1 L1 E1 D1 X1 : Addr) (k : Nat) (hl : List Addr) (H : Hp) : Prop where
  k2 : 2 ≤ k
  k6 : k ≤ 6
  eG : H G = some (.lst (gW.map V.str))
  eM : H M1 = some (.lst (mW.map V.str))
  eN : H N1 = some (.lst (nW.map V.str))
  eL : H L1 = some (.lst (oW.map V.str))
  eE : H E1 = some (.lst (hl.map V.ref))
  rE : RowsOff H D1 hl helW
  eX : H X1 = some (.lst (headW.map V.str))
  pool : Pool H P0
theorem Md.same {P0 G M1 N1 L1 E1 D1 X1 : Addr} {k : Nat} {hl : List Addr} {H H' : Hp} (m : Md P0 G M1 N1 L1 E1 D1 X1 k hl H) (s : Same H H') : Md P0 G M1 N1 L1 E1 D1 X1 k hl H' :=
  ⟨m.k2, m.k6, s _ _ m.eG, s _ _ m.eM, s _ _ m.eN, s _ _ m.eL, s _ _ m.eE, m.rE.same s, s _ _ m.eX, m.pool.same s⟩
theorem Pool.neS {H : Hp} {p a : Addr} {ws : List Str} (h : Pool H p) (e : H a = some (.lst (ws.map V.str))) : a ≠ p := fun z => by
  obtain ⟨s, i, cur, seed, run, bud, hp⟩ := h.there
  rw [z, hp] at e
  have z2 := HO.lst.inj (Option.some.inj e)
  cases ws with
  | nil => cases z2
  | cons w ws => cases (List.cons.inj z2).1
theorem Pool.neR {H : Hp} {p a : Addr} {ws : List Addr} (h : Pool H p) (e : H a = some (.lst (ws.map V.ref))) : a ≠ p := fun z => by
  obtain ⟨s, i, cur, seed, run, bud, hp⟩ := h.there
  rw [z, hp] at e
  have z2 := HO.lst.inj (Option.some.inj e)
  match ws, z2 with
  | [], z2 => cases z2
  | [_], z2 => cases (List.cons.inj z2).2
  | _ :: _ :: _, z2 => cases (List.cons.inj (List.cons.inj z2).2).1
theorem Md.put {P0 G M1 N1 L1 E1 D1 X1 : Addr} {k : Nat} {hl : List Addr} {H : Hp} {o : HO} (m : Md P0 G M1 N1 L1 E1 D1 X1 k hl H) (p : Pool (upd H P0 o) P0) : Md P0 G M1 N1 L1 E1 D1 X1 k hl (upd H P0 o) :=
  ⟨m.k2, m.k6, (upd_ne (m.pool.neS m.eG)).trans m.eG, (upd_ne (m.pool.neS m.eM)).trans m.eM, (upd_ne (m.pool.neS m.eN)).trans m.eN, (upd_ne (m.pool.neS m.eL)).trans m.eL, (upd_ne (m.pool.neR m.eE)).trans m.eE,
    ⟨m.rE.1, fun i r hr => by
      obtain ⟨a, h1, h2, h3⟩ := m.rE.2 i r hr
      exact ⟨a, h1, h2, (upd_ne (m.pool.neS h3)).trans h3⟩⟩, (upd_ne (m.pool.neS m.eX)).trans m.eX, p⟩
theorem Md.all {P0 G M1 N1 L1 E1 D1 X1 : Addr} {k : Nat} {hl : List Addr} {H : Hp} (m : Md P0 G M1 N1 L1 E1 D1 X1 k hl H) {p : Nat → Bool} (h : ([2, 3, 4, 5, 6].all p) = true) : p k = true := by
  have z := List.all_eq_true.mp h
  refine z _ ?_
  have h2 := m.k2
  have h6 := m.k6
  have : k = 2 ∨ k = 3 ∨ k = 4 ∨ k = 5 ∨ k = 6 := by omega
  rcases this with rfl | rfl | rfl | rfl | rfl <;> decide
def MdAt (a : Addr) (σ : L2.St) (H : Hp) : Prop := ∃ (P0 G M1 N1 L1 E1 D1 T1 D2 X1 : Addr) (k : Nat) (hl : List Addr) (z12 z13 z14 z15 z16 z17 z18 z19 z20 z21 z22 : Option V),
  σ = [some (.ref a), some (.ref P0), some (.ref G), some (.ref M1), some (.ref N1), some (.ref L1), some (.int (k : Nat)), none, some (.ref E1), some (.ref T1), some (.ref D2), some (.ref X1), z12, z13, z14, z15, z16, z17, z18, z19, z20, z21, z22] ∧ Md P0 G M1 N1 L1 E1 D1 X1 k hl H
theorem cut_take {α : Type} (f : α → V) (l : List α) (n : Nat) : cutV (l.map f) none (some (n : Int)) = (l.take n).map f := by
  unfold cutV
  rw [HT.sIx_none, HT.sIx_nat, List.drop_zero, Nat.sub_zero, List.length_map, ← List.map_take]
  congr 1
  by_cases c : n ≤ l.length
  · rw [Nat.min_eq_left c]
  · rw [Nat.min_eq_right (by omega), List.take_length, List.take_of_length_le (by omega)]
theorem cut_drop {α : Type} (f : α → V) (l : List α) (k : Nat) : cutV (l.map f) (some (k : Int)) none = (l.drop k).map f := by
  unfold cutV
  rw [HT.sIx_none, HT.sIx_nat, List.length_map, ← List.map_drop, ← List.map_take]
  congr 1
  by_cases c : k ≤ l.length
  · rw [Nat.min_eq_left c]
    exact List.take_of_length_le (by rw [List.length_drop]; omega)
  · rw [Nat.min_eq_right (by omega), List.drop_of_length_le (Nat.le_refl _), List.drop_of_length_le (show l.length ≤ k by omega)]
    simp
theorem rows_nil {H : Hp} {D : Addr} : RowsOff H D [] [] := ⟨rfl, fun i r h => by cases h⟩
theorem RowsOff.take {H : Hp} {D : Addr} {as : List Addr} {rws : List (List Str)} (h : RowsOff H D as rws) (k : Nat) : RowsOff H D (as.take k) (rws.take k) := by
  refine ⟨by rw [List.length_take, List.length_take, h.1], fun i r hr => ?_⟩
  rw [List.getElem?_take] at hr
  split at hr
  · obtain ⟨a, h1, h2, h3⟩ := h.2 i r hr
    refine ⟨a, ?_, h2, h3⟩
    rw [List.getElem?_take, if_pos (by assumption)]
    exact h1
  · cases hr
theorem RowsOff.here {H : Hp} {D E : Addr} {as : List Addr} {rws : List (List Str)} (e : H E = some (.lst (as.map V.ref))) (h : RowsOff H D as rws) : RowsAt H E rws :=
  ⟨as, e, h.1, fun i r hr => by
    obtain ⟨a, h1, _, h3⟩ := h.2 i r hr
    exact ⟨a, h1, h3⟩⟩
/-- the rows of hl, with another word at the beginning: what the comprehension over them asks -/
theorem rows_zip {H : Hp} {D : Addr} {hl : List Addr} {rws : List (List Str)} {n : Nat} (r : RowsOff H D hl rws) (hn : ∀ x ∈ rws, x.length = n) :
    hl.map V.ref = (hl.zip rws).map (fun p => V.ref p.1) ∧ ∀ p ∈ hl.zip rws, H p.1 = some (.lst (p.2.map V.str)) ∧ p.2.length = n := by
  refine ⟨?_, fun p hp => ?_⟩
  · have z := congrArg (List.map V.ref) (List.map_fst_zip (l₁ := hl) (l₂ := rws) (Nat.le_of_eq r.1))
    rw [List.map_map] at z
    exact z.symm
  · obtain ⟨j, hj, hj2⟩ := List.getElem_of_mem hp
    have lz : j < hl.length ∧ j < rws.length := by
      rw [List.length_zip] at hj
      omega
    obtain ⟨b, h1, _, h3⟩ := r.2 j rws[j] (List.getElem?_eq_getElem lz.2)
    have h4 : hl[j] = b := by
      rw [List.getElem?_eq_getElem lz.1] at h1
      exact Option.some.inj h1
    rw [List.getElem_zip] at hj2
    rw [← hj2]
    exact ⟨by rw [h4]; exact h3, hn _ (List.getElem_mem _)⟩
theorem zip_rows {hl : List Addr} {rws : List (List Str)} (h : hl.length = rws.length) (g : List Str → List Str) : (hl.zip rws).map (fun p => g p.2) = rws.map g := by
  have z := congrArg (List.map g) (List.map_snd_zip (l₁ := hl) (l₂ := rws) (Nat.le_of_eq h.symm))
  rw [List.map_map] at z
  exact z

section
variable {P : Program} {w : World} {K : PySem.W.Frag} {mg : Str → Option Value} {base : Heap} {f : Addr} {cdv : Value} {A : Around} {outer : List Env} {s : Shared} {H0 : Hp} {E : XK}
set_option maxHeartbeats 8000000 in
theorem law3_B (C__law_many : Callee P w K mg base CX0 "_law_many" ["head", "rows", "upper", "rest"] 11 (spLawMany K)) (hr : Room 11 (A.deeper (envOfC "law" (defScope s_law) s.heap.objs.size f cdv))) {a : Addr} {u : TS}
    (hC : PSs (XL3 P w K mg base f cdv A outer s H0 E) ((defBody s_law).drop 18) u) : ∃ t, PSs (XL3 P w K mg base f cdv A outer s H0 E) ((defBody s_law).drop 15) t ∧ ∀ (D : Ends) (σ : L2.St) (H : Hp), MdAt a σ H → (∀ σ' H', MdAt a σ' H' → u D σ' H') → t D σ H := by
  refine ⟨_, (pss_cons (ps_set (i := 12) sc_law.nd rfl (.inl rfl) (pe_lst (pa_cons (pe_lst (pa_cons pe_str (pa_cons pe_str pa_nil))) (pa_cons (pe_lst (pa_cons pe_str (pa_cons pe_str pa_nil))) (pa_cons (pe_lst (pa_cons pe_str (pa_cons pe_str pa_nil))) pa_nil)))))
  (pss_cons (ps_if (pt_not (pt_val (pe_callC C__law_many (hr.mono (by first | decide | exact Nat.le_refl _ | omega)) (by rfl) (pa_cons (pv 11) (pa_cons (pe_slice (show SlR _ (rSlL K) from sl_list) (pv 12) po_none (po_some (pv 6))) (pa_cons pe_int (pa_cons (pe_op op_cat (pe_lst (pa_cons pe_str (pa_cons pe_str (pa_cons pe_str pa_nil)))) (pv 5)) pa_nil))))))) (pss_one (ps_ret pe_bl)) pss_nil)
  (Evl.pss_cut (ps_for PassesOwn.never rfl (pi_tup (pe_tup (pa_cons pe_str (pa_cons pe_str pa_nil)))) (pg_name (i := 13) sc_law.nd rfl (.inr rfl)) (pss_cons (ps_setLc (i := 14) (own := [("row", 21)]) (g := gName 21) (by rfl) sc_law.nd rfl rfl (sw_true rfl rfl rfl (by decide +kernel)) (pi_list (pv 8)) (blkOk_by (own := [("row", 21)]) (N := N_law) (sc := defScope s_law) (by decide +kernel)) (fun _ _ _ _ _ => pg_name (i := 21) sc_law.nd rfl (.inl rfl)) (fun _ _ _ _ _ => pts_nil) (fun _ _ _ _ _ => (pe_op op_cat (pe_lst (pa_cons (pv 13) pa_nil)) (pe_slice (show SlR _ (rSlL K) from sl_list) (pv 21) (po_some pe_int) po_none))))
  (pss_one (ps_if (pt_not (pt_val (pe_callC C__law_many (hr.mono (by first | decide | exact Nat.le_refl _ | omega)) (by rfl) (pa_cons (pv 11) (pa_cons (pe_slice (show SlR _ (rSlL K) from sl_list) (pv 14) po_none (po_some (pv 6))) (pa_cons pe_int (pa_cons (pv 5) pa_nil))))))) (pss_one (ps_ret pe_bl)) pss_nil))))
  hC))), fun D σ H hm hk => ?_⟩
  obtain ⟨P0, G, M1, N1, L1, E1, D1, T1, D2, X1, k, hl, z12, z13, z14, z15, z16, z17, z18, z19, z20, z21, z22, rfl, m⟩ := hm
  have hsz := sizeLine_eq
  -- needs
  refine ⟨(by show 2 ≤ sizeLine; omega), fun B1 hB1 => ?_⟩
  refine ⟨(by show 2 ≤ sizeLine; omega), fun B2 hB2 => ?_⟩
  refine ⟨(by show 2 ≤ sizeLine; omega), fun B3 hB3 => ?_⟩
  refine ⟨(by show 3 ≤ sizeLine; omega), fun T2 hT2 => ?_⟩
  have eB1 : (upd (upd (upd H B1 (.lst ([("needs" : Str), "ann"].map V.str))) B2 (.lst ([("needs" : Str), "cat"].map V.str))) B3 (.lst ([("needs" : Str), "bob"].map V.str))) B1 = some (.lst ([("needs" : Str), "ann"].map V.str)) := (same_upd (o := .lst ([("needs" : Str), "bob"].map V.str)) hB3) _ _ ((same_upd (o := .lst ([("needs" : Str), "cat"].map V.str)) hB2) _ _ upd_same)
  have eB2 : (upd (upd (upd H B1 (.lst ([("needs" : Str), "ann"].map V.str))) B2 (.lst ([("needs" : Str), "cat"].map V.str))) B3 (.lst ([("needs" : Str), "bob"].map V.str))) B2 = some (.lst ([("needs" : Str), "cat"].map V.str)) := (same_upd (o := .lst ([("needs" : Str), "bob"].map V.str)) hB3) _ _ upd_same
  have eB3 : (upd (upd (upd H B1 (.lst ([("needs" : Str), "ann"].map V.str))) B2 (.lst ([("needs" : Str), "cat"].map V.str))) B3 (.lst ([("needs" : Str), "bob"].map V.str))) B3 = some (.lst ([("needs" : Str), "bob"].map V.str)) := upd_same
  have sB : Same H (upd (upd (upd H B1 (.lst ([("needs" : Str), "ann"].map V.str))) B2 (.lst ([("needs" : Str), "cat"].map V.str))) B3 (.lst ([("needs" : Str), "bob"].map V.str))) := (((same_upd hB1).trans (same_upd hB2)).trans (same_upd hB3))
  replace hT2 : (upd (upd (upd H B1 (.lst ([("needs" : Str), "ann"].map V.str))) B2 (.lst ([("needs" : Str), "cat"].map V.str))) B3 (.lst ([("needs" : Str), "bob"].map V.str))) T2 = none := hT2
  show gName 12 (.ref T2) _ (upd (upd (upd (upd H B1 (.lst ([("needs" : Str), "ann"].map V.str))) B2 (.lst ([("needs" : Str), "cat"].map V.str))) B3 (.lst ([("needs" : Str), "bob"].map V.str))) T2 (.lst ([B1, B2, B3].map V.ref))) _
  generalize (upd (upd (upd H B1 (.lst ([("needs" : Str), "ann"].map V.str))) B2 (.lst ([("needs" : Str), "cat"].map V.str))) B3 (.lst ([("needs" : Str), "bob"].map V.str))) = HB at eB1 eB2 eB3 sB hT2 ⊢
  have rT2 : RowsOff (upd HB T2 (.lst ([B1, B2, B3].map V.ref))) T2 [B1, B2, B3] needW := ((((((rows_nil : RowsOff _ T2 _ _).snoc (ne_of_none eB1 hT2) ((same_upd (o := .lst ([B1, B2, B3].map V.ref)) hT2) _ _ eB1)) : RowsOff _ T2 _ _).snoc (ne_of_none eB2 hT2) ((same_upd (o := .lst ([B1, B2, B3].map V.ref)) hT2) _ _ eB2)) : RowsOff _ T2 _ _).snoc (ne_of_none eB3 hT2) ((same_upd (o := .lst ([B1, B2, B3].map V.ref)) hT2) _ _ eB3))
  have eT2 : upd HB T2 (.lst ([B1, B2, B3].map V.ref)) T2 = some (.lst ([B1, B2, B3].map V.ref)) := upd_same
  replace m := m.same (sB.trans (same_upd (o := .lst ([B1, B2, B3].map V.ref)) hT2))
  generalize [B1, B2, B3] = tl2 at rT2 eT2 m ⊢
  generalize upd HB T2 (.lst (tl2.map V.ref)) = H19 at rT2 eT2 m ⊢
  clear sB hT2 eB1 hB1 eB2 hB2 eB3 hB3
  refine ⟨_, rfl, _, rfl, _, rfl, _, rfl, T2, _, rfl, .inl (.inl eT2), fun S1 hS1 => ?_⟩
  rw [cut_take]
  have eS1 : upd H19 S1 (.lst ((tl2.take k).map V.ref)) S1 = some (.lst ((tl2.take k).map V.ref)) := upd_same
  replace m := m.same (same_upd (o := .lst ((tl2.take k).map V.ref)) hS1)
  replace rT2 := rT2.same (same_upd (o := .lst ((tl2.take k).map V.ref)) hS1)
  generalize upd H19 S1 (.lst ((tl2.take k).map V.ref)) = H20 at eS1 m rT2 ⊢
  refine ⟨(by show 3 ≤ sizeLine; omega), fun B1 hB1 => ?_⟩
  refine ⟨_, rfl, B1, L1, _, _, rfl, rfl, upd_same, (same_upd hB1) _ _ m.eL, (by show 3 + 7 ≤ sizeLine; omega), fun R1 hR1 => ?_⟩
  dsimp only [tNil]
  have sR : Same H20 (upd (upd H20 B1 (.lst ([("gives" : Str), "oats", "0"].map V.str))) R1 (.lst ([("gives" : Str), "oats", "0"].map V.str ++ oW.map V.str))) := (same_upd hB1).trans (same_upd hR1)
  have eR : (upd (upd H20 B1 (.lst ([("gives" : Str), "oats", "0"].map V.str))) R1 (.lst ([("gives" : Str), "oats", "0"].map V.str ++ oW.map V.str))) R1 = some (.lst (([("gives" : Str), "oats", "0"] ++ oW).map V.str)) := by
    rw [upd_same, List.map_append]
  replace m := m.same sR
  obtain ⟨tk, gd⟩ := goodB_ok (m.all t6)
  have rS := (rT2.same sR).take k
  have tl5 : (needW.take k).length ≤ 100 := by
    rw [List.length_take]
    show min k 3 ≤ 100
    omega
  refine ⟨X1, S1, R1, headW, needW.take k, 2, [("gives" : Str), "oats", "0"] ++ oW, rfl, .inl (.inl m.eX), rS.here (sR _ _ eS1), eR, tl5, tk, gd, fun H21 s8 => ⟨_, rfl, ifF rfl ?_⟩⟩
  replace m := m.same s8
  clear sR eR rS rT2 eS1 s8 tk gd tl5
  -- takes and gives
  refine ⟨MdAt a, ?_, hk⟩
  refine ⟨(by show 2 ≤ sizeLine; omega), fun tp htp => ?_⟩
  refine ⟨tp, rfl, ⟨_, .inl (.inl upd_same)⟩, for_tup (K := K) (a := tp) (xs := [.str "takes", .str "gives"]) (fun i σ H' => (∃ z1 z2, σ = [some (.ref a), some (.ref P0), some (.ref G), some (.ref M1), some (.ref N1), some (.ref L1), some (.int (k : Nat)), none, some (.ref E1), some (.ref T1), some (.ref D2), some (.ref X1), some (.ref T2), z1, z2, z15, z16, z17, z18, z19, z20, z21, z22]) ∧ Same (upd H21 tp (.tup [.str "takes", .str "gives"])) H') ⟨⟨_, _, rfl⟩, fun _ _ e => e⟩ (fun i σ H' _ hh => .inl (.inl (hh.2 _ _ upd_same))) ?_ ?_⟩
  · rintro i x σ H' hx ⟨⟨z1, z2, rfl⟩, sm⟩
    have m2 := m.same ((same_upd htp).trans sm)
    obtain ⟨wd, rfl, hwd⟩ : ∃ wd : Str, x = .str wd ∧ (wd = "takes" ∨ wd = "gives") := by
      match i, hx with
      | 0, hx => exact ⟨_, (Option.some.inj hx).symm, .inl rfl⟩
      | 1, hx => exact ⟨_, (Option.some.inj hx).symm, .inr rfl⟩
    obtain ⟨hz1, hz3⟩ := rows_zip (n := 3) m2.rE (by decide)
    have hz2 := zip_rows m2.rE.1 (fun r => [wd] ++ r.drop 1)
    have eE' := m2.eE
    rw [hz1] at eE'
    refine ⟨_, rfl, E1, rfl, ⟨_, .inl (.inl eE')⟩, fun D3 hD3 => ?_⟩
    refine lc_rows (K := K) (ss := hl.zip helW) (f := fun p => V.ref p.1) (g := fun p => [wd] ++ p.2.drop 1) (by rw [List.length_zip]; show min _ 5 ≤ 1000; omega) (.inl (.inl eE')) hD3 (fun _ => rfl) (fun p H2 Q' hp s' q' => ?_) (fun H3 as s7 e7 r7 => ?_)
    · obtain ⟨p1, p2⟩ := hz3 p hp
      refine ⟨_, rfl, (by show 1 ≤ sizeLine; omega), fun B1 hB1 => ?_⟩
      refine ⟨_, rfl, _, rfl, p.1, _, rfl, .inl (.inl ((same_upd hB1) _ _ (s' _ _ p1))), fun S1 hS1 => ?_⟩
      have ec := cut_drop V.str p.2 1
      have ec1 : (some ((1 : Nat) : Int) : Option Int) = some 1 := rfl
      rw [ec1] at ec
      rw [ec]
      refine ⟨B1, S1, _, _, rfl, rfl, (same_upd hS1) _ _ upd_same, upd_same, by rw [List.length_map, List.length_drop, p2]; show 1 + 2 ≤ _; omega, fun q hq => ?_⟩
      have hq2 : H2 q = none := by
        cases e : H2 q with
        | none => rfl
        | some o =>
          have z := (same_upd (o := .lst ((p.2.drop 1).map V.str)) hS1) _ _ ((same_upd (o := .lst [.str wd]) hB1) _ _ e)
          rw [hq] at z
          cases z
      refine q' q _ hq2 (((same_upd hB1).trans (same_upd hS1)).trans (same_upd hq)) ?_
      rw [upd_same, List.map_append]
      rfl
    · rw [hz2] at r7
      have m3 := m2.same s7
      refine ⟨_, rfl, _, rfl, _, rfl, _, rfl, D3, _, rfl, .inl (.inl e7), fun S1 hS1 => ?_⟩
      rw [cut_take]
      refine ⟨_, rfl, ?_⟩
      dsimp only [tNil]
      have gd : TextOk ((headW ++ ((helW.map fun r => [wd] ++ r.drop 1).take k).flatten) ++ oW) ∧ Good ((headW ++ ((helW.map fun r => [wd] ++ r.drop 1).take k).flatten) ++ oW) (dueOf headW ((helW.map fun r => [wd] ++ r.drop 1).take k) 4) := by
        rcases hwd with rfl | rfl
        · have z := goodB_ok (m.all t7)
          exact z
        · have z := goodB_ok (m.all t8)
          exact z
      have rS := (r7.same (same_upd (o := .lst ((as.take k).map V.ref)) hS1)).take k
      have m4 := m3.same (same_upd (o := .lst ((as.take k).map V.ref)) hS1)
      have tl5 : ((helW.map fun r => [wd] ++ r.drop 1).take k).length ≤ 100 := by
        rw [List.length_take, List.length_map]
        show min k 5 ≤ 100
        omega
      refine ⟨X1, S1, L1, headW, (helW.map fun r => [wd] ++ r.drop 1).take k, 4, oW, rfl, .inl (.inl m4.eX), rS.here upd_same, m4.eL, tl5, ?_, ?_, ?_⟩
      · exact gd.1
      · exact gd.2
      · intro H4 s8
        refine ⟨_, rfl, ifF rfl ?_⟩
        exact ⟨⟨_, _, rfl⟩, (((sm.trans s7).trans (same_upd hS1))).trans s8⟩
  · rintro σ H' ⟨⟨z1, z2, rfl⟩, sm⟩
    exact ⟨P0, G, M1, N1, L1, E1, D1, T1, D2, X1, k, hl, _, _, _, _, _, _, _, _, _, _, _, rfl, m.same ((same_upd htp).trans sm)⟩
end

theorem back_none {H H' : Hp} {q : Addr} (s : Same H H') (h : H' q = none) : H q = none := by
  cases e : H q with
  | none => rfl
  | some o =>
    rw [s _ _ e] at h
    cases h
section
variable {P : Program} {w : World} {K : PySem.W.Frag} {mg : Str → Option Value} {base : Heap} {f : Addr} {cdv : Value} {A : Around} {outer : List Env} {s : Shared} {H0 : Hp} {E : XK}
set_option maxHeartbeats 8000000 in
theorem law3_C (C__law_many : Callee P w K mg base CX0 "_law_many" ["head", "rows", "upper", "rest"] 11 (spLawMany K)) (hr : Room 11 (A.deeper (envOfC "law" (defScope s_law) s.heap.objs.size f cdv))) {a : Addr} {u : TS}
    (hD : PSs (XL3 P w K mg base f cdv A outer s H0 E) ((defBody s_law).drop 21) u) : ∃ t, PSs (XL3 P w K mg base f cdv A outer s H0 E) ((defBody s_law).drop 18) t ∧ ∀ (D : Ends) (σ : L2.St) (H : Hp), MdAt a σ H → (∀ σ' H', MdAt a σ' H' → u D σ' H') → t D σ H := by
  refine ⟨_, (pss_cons (ps_if (pt_not (pt_val (pe_callC C__law_many (hr.mono (by first | decide | exact Nat.le_refl _ | omega)) (by rfl) (pa_cons (pe_op op_cat (pv 2) (pv 3)) (pa_cons (pe_lc (own := [("name", 7)]) (g := gName 7) (by rfl) sc_law.nd (pi_list (pe_slice (show SlR _ (rSlL K) from sl_list) (pv 4) po_none (po_some (pv 6)))) (blkOk_by (own := [("name", 7)]) (N := N_law) (sc := defScope s_law) (by decide +kernel)) (fun _ _ _ _ _ => pg_name (i := 7) sc_law.nd rfl (.inl rfl)) (fun _ _ _ _ _ => pts_nil) (fun _ _ _ _ _ => (pe_op op_cat (pe_lst (pa_cons pe_str (pa_cons (pv 7) pa_nil))) (pe_slice (show SlR _ (rSlL K) from sl_list) (pv 5) (po_some pe_int) po_none)))) (pa_cons pe_int (pa_cons (pe_lst pa_nil) pa_nil))))))) (pss_one (ps_ret pe_bl)) pss_nil)
  (pss_cons (ps_setLc (i := 14) (own := [("row", 21)]) (g := gName 21) (by rfl) sc_law.nd rfl rfl (sw_true rfl rfl rfl (by decide +kernel)) (pi_list (pv 8)) (blkOk_by (own := [("row", 21)]) (N := N_law) (sc := defScope s_law) (by decide +kernel)) (fun _ _ _ _ _ => pg_name (i := 21) sc_law.nd rfl (.inl rfl)) (fun _ _ _ _ _ => pts_nil) (fun _ _ _ _ _ => (pe_op op_cat (pe_lst (pa_cons pe_str pa_nil)) (pe_slice (show SlR _ (rSlL K) from sl_list) (pv 21) (po_some pe_int) po_none))))
  (Evl.pss_cut (ps_if (pt_not (pt_val (pe_callC C__law_many (hr.mono (by first | decide | exact Nat.le_refl _ | omega)) (by rfl) (pa_cons (pe_op op_cat (pe_op op_cat (pv 2) (pv 3)) (pe_slice (show SlR _ (rSlL K) from sl_list) (pv 5) po_none (po_some pe_int))) (pa_cons (pe_slice (show SlR _ (rSlL K) from sl_list) (pv 14) po_none (po_some (pv 6))) (pa_cons pe_int (pa_cons (pe_op op_cat (pe_lst (pa_cons pe_str (pa_cons pe_str pa_nil))) (pe_slice (show SlR _ (rSlL K) from sl_list) (pv 5) (po_some pe_int) po_none)) pa_nil))))))) (pss_one (ps_ret pe_bl)) pss_nil)
  hD))), fun D σ H hm hk => ?_⟩
  obtain ⟨P0, G, M1, N1, L1, E1, D1, T1, D2, X1, k, hl, z12, z13, z14, z15, z16, z17, z18, z19, z20, z21, z22, rfl, m⟩ := hm
  have hsz := sizeLine_eq
  have ec2 : cutV (oW.map V.str) (some 2) none = (oW.drop 2).map V.str := cut_drop V.str oW 2
  have ec4 : cutV (oW.map V.str) none (some 4) = (oW.take 4).map V.str := cut_take V.str oW 4
  have cut1 : (nW.take k).length ≤ 100 := by
    rw [List.length_take]
    show min k 7 ≤ 100
    omega
  -- orders
  refine ⟨_, rfl, _, rfl, G, M1, _, _, rfl, rfl, m.eG, m.eM, (by show 8 + 6 ≤ sizeLine; omega), fun A1 hA1 => ?_⟩
  have eA1 : upd H A1 (.lst (gW.map V.str ++ mW.map V.str)) A1 = some (.lst ((gW ++ mW).map V.str)) := by
    rw [upd_same, List.map_append]
  replace m := m.same (same_upd (o := .lst (gW.map V.str ++ mW.map V.str)) hA1)
  generalize upd H A1 (.lst (gW.map V.str ++ mW.map V.str)) = H1 at eA1 m ⊢
  refine ⟨_, rfl, _, rfl, _, rfl, N1, _, rfl, .inl (.inl m.eN), fun S1 hS1 => ?_⟩
  rw [cut_take]
  have eS1 : upd H1 S1 (.lst ((nW.take k).map V.str)) S1 = some (.lst ((nW.take k).map V.str)) := upd_same
  replace eA1 := (same_upd (o := .lst ((nW.take k).map V.str)) hS1) _ _ eA1
  replace m := m.same (same_upd (o := .lst ((nW.take k).map V.str)) hS1)
  generalize upd H1 S1 (.lst ((nW.take k).map V.str)) = H2 at eA1 eS1 m ⊢
  refine ⟨S1, rfl, ⟨_, .inl (.inl eS1)⟩, fun D3 hD3 => ?_⟩
  refine lc_rows (K := K) (ss := nW.take k) (f := V.str) (g := fun n => [("order" : Str), n] ++ oW.drop 2) (by omega) (.inl (.inl eS1)) hD3 (fun _ => rfl) (fun x H' Q' _ s' q' => ?_) (fun H3 as s7 e7 r7 => ?_)
  · refine ⟨_, rfl, (by show 2 ≤ sizeLine; omega), fun B1 hB1 => ?_⟩
    refine ⟨_, rfl, _, rfl, L1, _, rfl, .inl (.inl ((same_upd hB1) _ _ (s' _ _ m.eL))), fun S2 hS2 => ?_⟩
    rw [ec2]
    refine ⟨B1, S2, _, _, rfl, rfl, (same_upd hS2) _ _ upd_same, upd_same, by show 2 + 5 ≤ _; omega, fun q hq => ?_⟩
    refine q' q _ (back_none ((same_upd hB1).trans (same_upd hS2)) hq) (((same_upd hB1).trans (same_upd hS2)).trans (same_upd hq)) ?_
    rw [upd_same, List.map_append]
    rfl
  replace m := m.same s7
  replace eA1 := s7 _ _ eA1
  refine ⟨(by show 0 ≤ sizeLine; omega), fun R1 hR1 => ?_⟩
  dsimp only [tNil]
  obtain ⟨tk, gd⟩ := goodB_ok (m.all t9)
  refine ⟨A1, D3, R1, gW ++ mW, (nW.take k).map fun n => [("order" : Str), n] ++ oW.drop 2, 4, [], rfl, .inl (.inl ((same_upd hR1) _ _ eA1)), (r7.same (same_upd hR1)).at_ ((same_upd hR1) _ _ e7), upd_same, by rw [List.length_map]; omega, tk, gd, fun H4 s8 => ⟨_, rfl, ifF rfl ?_⟩⟩
  replace m := m.same ((same_upd hR1).trans s8)
  clear s7 e7 r7 s8 eA1 eS1 tk gd
  -- rows
  obtain ⟨hz1, hz3⟩ := rows_zip (n := 3) m.rE (by decide)
  have hz2 := zip_rows m.rE.1 (fun r => [("takes" : Str)] ++ r.drop 1)
  have eE' := m.eE
  rw [hz1] at eE'
  refine ⟨_, rfl, E1, rfl, ⟨_, .inl (.inl eE')⟩, fun D3 hD3 => ?_⟩
  refine lc_rows (K := K) (ss := hl.zip helW) (f := fun p => V.ref p.1) (g := fun p => [("takes" : Str)] ++ p.2.drop 1) (by rw [List.length_zip]; show min _ 5 ≤ 1000; omega) (.inl (.inl eE')) hD3 (fun _ => rfl) (fun p H2 Q' hp s' q' => ?_) (fun H5 as s7 e7 r7 => ?_)
  · obtain ⟨p1, p2⟩ := hz3 p hp
    refine ⟨(by show 1 ≤ sizeLine; omega), fun B1 hB1 => ?_⟩
    refine ⟨_, rfl, _, rfl, p.1, _, rfl, .inl (.inl ((same_upd hB1) _ _ (s' _ _ p1))), fun S1 hS1 => ?_⟩
    have ec := cut_drop V.str p.2 1
    have ec1 : (some ((1 : Nat) : Int) : Option Int) = some 1 := rfl
    rw [ec1] at ec
    rw [ec]
    refine ⟨B1, S1, _, _, rfl, rfl, (same_upd hS1) _ _ upd_same, upd_same, by rw [List.length_map, List.length_drop, p2]; show 1 + 2 ≤ _; omega, fun q hq => ?_⟩
    refine q' q _ (back_none ((same_upd hB1).trans (same_upd hS1)) hq) (((same_upd hB1).trans (same_upd hS1)).trans (same_upd hq)) ?_
    rw [upd_same, List.map_append]
    rfl
  rw [hz2] at r7
  replace m := m.same s7
  -- takes of an order
  refine ⟨MdAt a, ?_, hk⟩
  refine ⟨_, rfl, _, rfl, G, M1, _, _, rfl, rfl, m.eG, m.eM, (by show 8 + 6 ≤ sizeLine; omega), fun A1 hA1 => ?_⟩
  have eA1 : upd H5 A1 (.lst (gW.map V.str ++ mW.map V.str)) A1 = some (.lst ((gW ++ mW).map V.str)) := by
    rw [upd_same, List.map_append]
  have sA1 : Same H5 (upd H5 A1 (.lst (gW.map V.str ++ mW.map V.str))) := same_upd hA1
  replace m := m.same sA1
  replace r7 := r7.same sA1
  replace e7 := sA1 _ _ e7
  generalize upd H5 A1 (.lst (gW.map V.str ++ mW.map V.str)) = H6 at eA1 m r7 e7 ⊢
  refine ⟨_, rfl, _, rfl, L1, _, rfl, .inl (.inl m.eL), fun S2 hS2 => ?_⟩
  rw [ec4]
  refine ⟨A1, S2, _, _, rfl, rfl, (same_upd hS2) _ _ eA1, upd_same, (by show 14 + 4 ≤ sizeLine; omega), fun Y1 hY1 => ?_⟩
  have eY1 : upd (upd H6 S2 (.lst ((oW.take 4).map V.str))) Y1 (.lst ((gW ++ mW).map V.str ++ (oW.take 4).map V.str)) Y1 = some (.lst (((gW ++ mW) ++ oW.take 4).map V.str)) := by
    rw [upd_same, ← List.map_append]
  have sY1 : Same H6 (upd (upd H6 S2 (.lst ((oW.take 4).map V.str))) Y1 (.lst ((gW ++ mW).map V.str ++ (oW.take 4).map V.str))) := (same_upd hS2).trans (same_upd hY1)
  replace m := m.same sY1
  replace r7 := r7.same sY1
  replace e7 := sY1 _ _ e7
  generalize upd (upd H6 S2 (.lst ((oW.take 4).map V.str))) Y1 (.lst ((gW ++ mW).map V.str ++ (oW.take 4).map V.str)) = H7 at eY1 m r7 e7 ⊢
  refine ⟨_, rfl, _, rfl, _, rfl, D3, _, rfl, .inl (.inl e7), fun S1 hS1 => ?_⟩
  rw [cut_take]
  have rS := (r7.same (same_upd (o := .lst ((as.take k).map V.ref)) hS1)).take k
  replace m := m.same (same_upd (o := .lst ((as.take k).map V.ref)) hS1)
  replace eY1 := (same_upd (o := .lst ((as.take k).map V.ref)) hS1) _ _ eY1
  have eS1 : upd H7 S1 (.lst ((as.take k).map V.ref)) S1 = some (.lst ((as.take k).map V.ref)) := upd_same
  generalize upd H7 S1 (.lst ((as.take k).map V.ref)) = H8 at eY1 m rS eS1 ⊢
  refine ⟨(by show 2 ≤ sizeLine; omega), fun B1 hB1 => ?_⟩
  refine ⟨_, rfl, _, rfl, L1, _, rfl, .inl (.inl ((same_upd hB1) _ _ m.eL)), fun S3 hS3 => ?_⟩
  rw [ec2]
  refine ⟨B1, S3, _, _, rfl, rfl, (same_upd hS3) _ _ upd_same, upd_same, by show 2 + 5 ≤ _; omega, fun R1 hR1 => ?_⟩
  dsimp only [tNil]
  have sR := ((same_upd (o := .lst ([("order" : Str), "p"].map V.str)) hB1).trans (same_upd (o := .lst ((oW.drop 2).map V.str)) hS3)).trans (same_upd (o := .lst ([("order" : Str), "p"].map V.str ++ (oW.drop 2).map V.str)) hR1)
  obtain ⟨tk, gd⟩ := goodB_ok (m.all t10)
  have tl5 : ((helW.map fun r => [("takes" : Str)] ++ r.drop 1).take k).length ≤ 100 := by
    rw [List.length_take, List.length_map]
    show min k 5 ≤ 100
    omega
  refine ⟨Y1, S1, R1, (gW ++ mW) ++ oW.take 4, (helW.map fun r => [("takes" : Str)] ++ r.drop 1).take k, 4, [("order" : Str), "p"] ++ oW.drop 2, rfl, .inl (.inl (sR _ _ eY1)), (rS.same sR).here (sR _ _ eS1), by rw [upd_same, List.map_append]; rfl, tl5, tk, gd, fun H9 s8 => ⟨_, rfl, ifF rfl ?_⟩⟩
  exact ⟨P0, G, M1, N1, L1, E1, D1, T1, D2, X1, k, hl, _, _, _, _, _, _, _, _, _, _, _, rfl, (m.same sR).same s8⟩
end

def dueV (ws : List Str) : Option Nat → V
  | none => .str (Txt.join " " ws)
  | some d => .int (d : Nat)
def dueD (ws : List Str) : Option Nat → PyData
  | none => .str (Txt.join " " ws)
  | some d => .int (d : Nat)
theorem due_dp {K : PySem.W.Frag} {H : Hp} (ws : List Str) (due : Option Nat) : Dp K H (dueV ws due) (dueD ws due) := by
  cases due with
  | none => exact .str _
  | some d => exact .int _
theorem due_fits (ws : List Str) (due : Option Nat) : Fits 1 (dueD ws due) := by
  cases due with
  | none => exact trivial
  | some d => exact trivial
theorem law_at_of {K : PySem.W.Frag} {w : Addr} {ws : List Str} {due : Option Nat} {H : Hp} {Q : VK} {E : XK} (tk : TextOk ws) (gd : Good ws due) (hw : SqL K H w (ws.map V.str))
    (q : ∀ H', Same H H' → Q (dueV ws due) H') : spLawAt K [.ref w] H Q E := by
  refine ⟨w, ws, rfl, hw, tk, ?_⟩
  cases due with
  | none =>
    obtain ⟨h, g2, wr, hw2⟩ := gd
    rw [g2]
    refine ⟨wr, fun H' s => ?_⟩
    rw [hw2]
    exact q H' s
  | some d =>
    have g2 : readHouse ws = .error d := gd
    rw [g2]
    exact q
theorem chain_lt {a b c : Int} {σ : L2.St} {H : Hp} {Q : VK} (q : Q (.bl (decide (a < b ∧ b < c))) H) :
    (if decide (a < b) = true then tC (.int c) σ H fun w' H4 => rI0 (fun i j => V.bl (decide (i < j))) (.int b) w' H4 Q else Q (.bl false) H) := by
  by_cases h : a < b
  · refine ifT (decide_eq_true h) ⟨_, _, rfl, rfl, ?_⟩
    have e : decide (a < b ∧ b < c) = decide (b < c) := by simp [h]
    rw [e] at q
    exact q
  · refine ifF (decide_eq_false h) ?_
    have e : decide (a < b ∧ b < c) = false := by simp [h]
    rw [e] at q
    exact q
theorem join_sum {ws : List Str} (h : TextOk ws) : (ws.map (·.length)).sum + ws.length * (" " : Str).length ≤ 16777216 := by
  have sl := sum_le h.short
  have fw := h.few
  have e1 : (" " : Str).length = 1 := by decide
  rw [e1]
  omega
section
variable {P : Program} {w : World} {K : PySem.W.Frag} {mg : Str → Option Value} {base : Heap} {f : Addr} {cdv : Value} {A : Around} {outer : List Env} {s : Shared} {H0 : Hp} {E : XK}
set_option maxHeartbeats 8000000 in
theorem law3_D0 (M : MB mg) (C__law_draw : Callee P w K mg base CX0 "_law_draw" ["pool", "size"] 1 spDraw) (C__law_at : Callee P w K mg base CX0 "_law_at" ["words"] 10 (spLawAt K))
    (C__law_same : Callee P w K mg base CX0 "_law_same" ["actual", "due"] 2 (spSame K 1)) (hr : Room 11 (A.deeper (envOfC "law" (defScope s_law) s.heap.objs.size f cdv))) {a : Addr} {u : TS}
    (hE : PSs (XL3 P w K mg base f cdv A outer s H0 E) ((defBody s_law).drop 24) u) : ∃ t, PSs (XL3 P w K mg base f cdv A outer s H0 E) ((defBody s_law).drop 21) t ∧ ∀ (D : Ends) (σ : L2.St) (H : Hp), MdAt a σ H → (∀ σ' H', MdAt a σ' H' → u D σ' H') → t D σ H := by
  refine ⟨_, (pss_cons (ps_set (i := 15) sc_law.nd rfl (.inl rfl) (pe_callC C__law_draw (hr.mono (by first | decide | exact Nat.le_refl _ | omega)) (by rfl) (pa_cons (pv 1) (pa_cons pe_int pa_nil))))
  (pss_cons (ps_set (i := 16) sc_law.nd rfl (.inl rfl) (pe_op op_cat (pe_op op_cat (pv 2) (pv 3)) (pe_lst (pa_cons pe_str (pa_cons pe_str (pa_cons pe_str (pa_cons pe_str (pa_cons pe_str (pa_cons (pe_callTy call_str_int (by rfl) M.str (by decide +kernel) (pa_cons (pv 15) pa_nil)) pa_nil)))))))))
  (Evl.pss_cut (ps_if (pt_not (pt_val (pe_callC C__law_same (hr.mono (by first | decide | exact Nat.le_refl _ | omega)) (by rfl) (pa_cons (pe_callC C__law_at (hr.mono (by first | decide | exact Nat.le_refl _ | omega)) (by rfl) (pa_cons (pv 16) pa_nil)) (pa_cons (pe_ix ix_tup (pe_tup (pa_cons (pe_op op_sub (pe_callB call_len_seq (by rfl) M.len (by decide +kernel) (pa_cons (pv 16) pa_nil)) pe_int) (pa_cons (pe_joinK (K := K) rfl pe_str (pv 16)) pa_nil))) (pe_callTy call_int1 (by rfl) M.int (by decide +kernel) (pa_cons (pe_chain op_lt op_lt pe_int (pv 15) pe_int) pa_nil)) (fun _ _ => rfl)) pa_nil))))) (pss_one (ps_ret pe_bl)) pss_nil)
  hE))), fun D σ H hm hk => ?_⟩
  obtain ⟨P0, G, M1, N1, L1, E1, D1, T1, D2, X1, k, hl, z12, z13, z14, z15, z16, z17, z18, z19, z20, z21, z22, rfl, m⟩ := hm
  have hsz := sizeLine_eq
  refine ⟨_, rfl, P0, 8, rfl, by decide, by decide, m.pool, fun v o hv0 hv8 pool5 => ?_⟩
  replace m := m.put pool5
  obtain ⟨n, rfl⟩ : ∃ n : Nat, v = (n : Int) := ⟨v.toNat, by omega⟩
  have hn : n < 8 := by omega
  show gName 15 (.int (n : Nat)) _ (upd H P0 o) _
  generalize upd H P0 o = H1 at m ⊢
  -- words
  refine ⟨_, rfl, _, rfl, G, M1, _, _, rfl, rfl, m.eG, m.eM, (by show 8 + 6 ≤ sizeLine; omega), fun A1 hA1 => ?_⟩
  have eA1 : upd H1 A1 (.lst (gW.map V.str ++ mW.map V.str)) A1 = some (.lst ((gW ++ mW).map V.str)) := by
    rw [upd_same, List.map_append]
  replace m := m.same (same_upd (o := .lst (gW.map V.str ++ mW.map V.str)) hA1)
  generalize upd H1 A1 (.lst (gW.map V.str ++ mW.map V.str)) = H2 at eA1 m ⊢
  refine ⟨_, rfl, _, rfl, nat_log (by omega), (by show 6 ≤ sizeLine; omega), fun B1 hB1 => ?_⟩
  refine ⟨A1, B1, _, _, rfl, rfl, (same_upd hB1) _ _ eA1, upd_same, (by show 14 + 6 ≤ sizeLine; omega), fun W1 hW1 => ?_⟩
  obtain ⟨ws, hws⟩ : ∃ ws, (gW ++ mW) ++ [("recipe" : Str), "r", "cost", "1", "times", natS n] = ws := ⟨_, rfl⟩
  have lw : ws.length = 20 := by rw [← hws]; rfl
  have gd := goodB_ok (List.all_eq_true.mp t11 n (List.mem_range.mpr hn))
  rw [hws] at gd
  have eW : upd (upd H2 B1 (.lst [.str "recipe", .str "r", .str "cost", .str "1", .str "times", .str (natS n)])) W1 (.lst ((gW ++ mW).map V.str ++ [.str "recipe", .str "r", .str "cost", .str "1", .str "times", .str (natS n)])) W1 = some (.lst (ws.map V.str)) := by
    rw [upd_same, ← hws, List.map_append (l₁ := gW ++ mW)]
    rfl
  replace m := m.same ((same_upd (o := .lst [.str "recipe", .str "r", .str "cost", .str "1", .str "times", .str (natS n)]) hB1).trans (same_upd (o := .lst ((gW ++ mW).map V.str ++ [.str "recipe", .str "r", .str "cost", .str "1", .str "times", .str (natS n)])) hW1))
  show gName 16 (.ref W1) _ (upd (upd H2 B1 (.lst [.str "recipe", .str "r", .str "cost", .str "1", .str "times", .str (natS n)])) W1 (.lst ((gW ++ mW).map V.str ++ [.str "recipe", .str "r", .str "cost", .str "1", .str "times", .str (natS n)]))) _
  generalize upd (upd H2 B1 (.lst [.str "recipe", .str "r", .str "cost", .str "1", .str "times", .str (natS n)])) W1 (.lst ((gW ++ mW).map V.str ++ [.str "recipe", .str "r", .str "cost", .str "1", .str "times", .str (natS n)])) = H3 at eW m ⊢
  clear eA1 hA1 hB1 hW1
  refine ⟨MdAt a, ?_, hk⟩
  refine ⟨_, rfl, ?_⟩
  dsimp only [tNil, List.cons_append, List.nil_append]
  refine law_at_of gd.1 gd.2 (.inl (.inl eW)) fun H4 s4 => ?_
  replace m := m.same s4
  replace eW := s4 _ _ eW
  have js := join_sum gd.1
  refine ⟨_, rfl, _, _, rfl, .inl (.inl (.inl eW)), _, _, rfl, rfl, ?_⟩
  refine ⟨⟨_, rfl⟩, _, rfl, " ", W1, ws, rfl, rfl, .inl (.inl (.inl eW)), js, ?_⟩
  refine ⟨(by show 2 ≤ sizeLine; omega), fun tp htp => ?_⟩
  dsimp only [tNil]
  refine ⟨_, rfl, _, _, rfl, rfl, _, rfl, ?_⟩
  refine chain_lt ?_
  refine .inr ⟨_, rfl, ?_⟩
  have eT : upd H4 tp (.tup [.int (((ws.map V.str).length : Nat) - 1 : Int), .str (Txt.join " " ws)]) tp = some (.tup [.int (((ws.map V.str).length : Nat) - 1 : Int), .str (Txt.join " " ws)]) := upd_same
  have l19 : (((ws.map V.str).length : Nat) - 1 : Int) = ((19 : Nat) : Int) := by
    rw [List.length_map, lw]
    rfl
  replace m := m.same (same_upd (o := .tup [.int (((ws.map V.str).length : Nat) - 1 : Int), .str (Txt.join " " ws)]) htp)
  rw [l19] at eT m
  refine ⟨tp, [.int ((19 : Nat) : Int), .str (Txt.join " " ws)], _, dueV ws (if 0 < n ∧ n < 5 then none else some 19), rfl, rfl, .inl (.inl (by rw [l19]; exact eT)), ?_, ?_⟩
  · by_cases c : 0 < n ∧ n < 5
    · have c2 : (0 : Int) < (n : Int) ∧ (n : Int) < 5 := by omega
      rw [if_pos c, if_pos (decide_eq_true c2)]
      rfl
    · have c2 : ¬ ((0 : Int) < (n : Int) ∧ (n : Int) < 5) := by omega
      rw [if_neg c, if_neg (by rw [decide_eq_true_eq]; exact c2)]
      rfl
  · rw [l19]
    refine ⟨_, _, dueD ws (if 0 < n ∧ n < 5 then none else some 19), rfl, due_dp _ _, due_dp _ _, due_fits _ _, _, rfl, ifF rfl ?_⟩
    exact ⟨P0, G, M1, N1, L1, E1, D1, T1, D2, X1, k, hl, _, _, _, _, _, _, _, _, _, _, _, rfl, m⟩
end

theorem Pool.neq {H : Hp} {p q : Addr} (h : Pool H p) (hq : H q = none) : q ≠ p := fun z => by
  obtain ⟨_, _, _, _, _, _, e⟩ := h.there
  rw [z, e] at hq
  cases hq
section
variable {P : Program} {w : World} {K : PySem.W.Frag} {mg : Str → Option Value} {base : Heap} {f : Addr} {cdv : Value} {A : Around} {outer : List Env} {s : Shared} {H0 : Hp} {E : XK}
set_option maxHeartbeats 8000000 in
theorem law3_E (M : MB mg) (C__law_draw : Callee P w K mg base CX0 "_law_draw" ["pool", "size"] 1 spDraw) (C__law_at : Callee P w K mg base CX0 "_law_at" ["words"] 10 (spLawAt K))
    (C__law_same : Callee P w K mg base CX0 "_law_same" ["actual", "due"] 2 (spSame K 1)) (hr : Room 11 (A.deeper (envOfC "law" (defScope s_law) s.heap.objs.size f cdv))) {a : Addr} {u : TS}
    (hF : PSs (XL3 P w K mg base f cdv A outer s H0 E) ((defBody s_law).drop 31) u) : ∃ t, PSs (XL3 P w K mg base f cdv A outer s H0 E) ((defBody s_law).drop 24) t ∧ ∀ (D : Ends) (σ : L2.St) (H : Hp), MdAt a σ H → (∀ σ' H', MdAt a σ' H' → u D σ' H') → t D σ H := by
  refine ⟨_, (pss_cons (ps_set (i := 17) sc_law.nd rfl (.inl rfl) (pe_ix ix_tup (pe_tup (pa_cons (pe_op op_add pe_int (pe_callC C__law_draw (hr.mono (by first | decide | exact Nat.le_refl _ | omega)) (by rfl) (pa_cons (pv 1) (pa_cons pe_int pa_nil)))) (pa_cons (pe_callC C__law_draw (hr.mono (by first | decide | exact Nat.le_refl _ | omega)) (by rfl) (pa_cons (pv 1) (pa_cons pe_int pa_nil))) pa_nil))) (pe_callC C__law_draw (hr.mono (by first | decide | exact Nat.le_refl _ | omega)) (by rfl) (pa_cons (pv 1) (pa_cons pe_int pa_nil))) (fun _ _ => rfl)))
  (pss_cons (ps_set (i := 18) sc_law.nd rfl (.inl rfl) (pe_callC C__law_draw (hr.mono (by first | decide | exact Nat.le_refl _ | omega)) (by rfl) (pa_cons (pv 1) (pa_cons pe_int pa_nil))))
  (pss_cons (ps_set (i := 16) sc_law.nd rfl (.inl rfl) (pe_ix ix_list (pe_lst (pa_cons (pe_op op_cat (pv 2) (pe_lst (pa_cons pe_str (pa_cons pe_str (pa_cons pe_str (pa_cons pe_str pa_nil)))))) (pa_cons (pe_op op_cat (pe_op op_cat (pv 2) (pv 3)) (pe_lst (pa_cons pe_str (pa_cons pe_str (pa_cons pe_str pa_nil))))) (pa_cons (pe_op op_cat (pe_op op_cat (pv 2) (pv 3)) (pe_slice sl_list (pv 5) po_none (po_some pe_int))) pa_nil)))) (pv 18) (fun _ _ => rfl)))
  (pss_cons (ps_set (i := 19) sc_law.nd rfl (.inl rfl) (pe_ix ix_list (pe_lst (pa_cons (pe_lst pa_nil) (pa_cons (pe_lst (pa_cons pe_str (pa_cons pe_str pa_nil))) (pa_cons (pe_lst (pa_cons pe_str (pa_cons pe_str (pa_cons pe_str pa_nil)))) pa_nil)))) (pv 18) (fun _ _ => rfl)))
  (pss_cons (ps_set (i := 20) sc_law.nd rfl (.inl rfl) (pe_joinK (K := K) rfl pe_str (pe_op op_cat (pe_op op_cat (pv 16) (pe_lst (pa_cons (pe_callTy call_str_int (by rfl) M.str (by decide +kernel) (pa_cons (pv 17) pa_nil)) pa_nil))) (pv 19))))
  (pss_cons (ps_if (pt_cmpR op_gt (pv 17) pe_int (nomark _)) (pss_one (ps_set (i := 20) sc_law.nd rfl (.inl rfl) (pe_callB call_len_seq (by rfl) M.len (by decide +kernel) (pa_cons (pv 16) pa_nil)))) pss_nil)
  (Evl.pss_cut (ps_if (pt_not (pt_val (pe_callC C__law_same (hr.mono (by first | decide | exact Nat.le_refl _ | omega)) (by rfl) (pa_cons (pe_callC C__law_at (hr.mono (by first | decide | exact Nat.le_refl _ | omega)) (by rfl) (pa_cons (pe_op op_cat (pe_op op_cat (pv 16) (pe_lst (pa_cons (pe_callTy call_str_int (by rfl) M.str (by decide +kernel) (pa_cons (pv 17) pa_nil)) pa_nil))) (pv 19)) pa_nil)) (pa_cons (pv 20) pa_nil))))) (pss_one (ps_ret pe_bl)) pss_nil)
  hF))))))), fun D σ H hm hk => ?_⟩
  obtain ⟨P0, G, M1, N1, L1, E1, D1, T1, D2, X1, k, hl, z12, z13, z14, z15, z16, z17, z18, z19, z20, z21, z22, rfl, m⟩ := hm
  have hsz := sizeLine_eq
  refine ⟨_, rfl, P0, 20, rfl, by decide, by decide, m.pool, fun v1 o1 h1 h1' pool1 => ?_⟩
  replace m := m.put pool1
  obtain ⟨n1, rfl⟩ : ∃ n : Nat, v1 = (n : Int) := ⟨v1.toNat, by omega⟩
  replace m : Md P0 G M1 N1 L1 E1 D1 X1 k hl (upd H P0 o1) := m
  refine ⟨_, _, rfl, rfl, ?_⟩
  refine ⟨_, rfl, P0, 20, rfl, by decide, by decide, m.pool, fun v2 o2 h2 h2' pool2 => ?_⟩
  replace m := m.put pool2
  obtain ⟨n2, rfl⟩ : ∃ n : Nat, v2 = (n : Int) := ⟨v2.toNat, by omega⟩
  replace m : Md P0 G M1 N1 L1 E1 D1 X1 k hl (upd (upd H P0 o1) P0 o2) := m
  rw [upd_upd] at m
  refine ⟨(by show 2 ≤ sizeLine; omega), fun tp htp => ?_⟩
  replace htp : upd (upd H P0 o1) P0 o2 tp = none := htp
  rw [upd_upd] at htp
  have npt : tp ≠ P0 := m.pool.neq htp
  replace m := m.same (same_upd (o := .tup [.int (9990 + (n1 : Int)), .int (n2 : Int)]) htp)
  have eT : upd (upd H P0 o2) tp (.tup [.int (9990 + (n1 : Int)), .int (n2 : Int)]) tp = some (.tup [.int (9990 + (n1 : Int)), .int (n2 : Int)]) := upd_same
  refine ⟨_, rfl, P0, 2, rfl, by decide, by decide, ?_, fun v3 o3 h3 h3' pool3 => ?_⟩
  · dsimp only [tNil]
    rw [upd_upd]
    exact m.pool
  obtain ⟨n3, rfl⟩ : ∃ n : Nat, v3 = (n : Int) := ⟨v3.toNat, by omega⟩
  replace pool3 : Pool (upd (upd (upd (upd H P0 o1) P0 o2) tp (.tup [.int (9990 + (n1 : Int)), .int (n2 : Int)])) P0 o3) P0 := pool3
  rw [upd_upd (H := H)] at pool3
  replace m := m.put pool3
  have eT2 := (upd_ne (o := o3) npt).trans eT
  obtain ⟨N, hN, hN2⟩ : ∃ N : Nat, atI [V.int (9990 + (n1 : Int)), V.int (n2 : Int)] (n3 : Int) = some (.int (N : Int)) ∧ ((∃ n, n < 20 ∧ N = 9990 + n) ∨ N < 20) := by
    have : n3 = 0 ∨ n3 = 1 := by omega
    rcases this with rfl | rfl
    · exact ⟨9990 + n1, by rw [Int.natCast_add]; rfl, .inl ⟨n1, by omega, rfl⟩⟩
    · exact ⟨n2, rfl, .inr (by omega)⟩
  refine ⟨tp, _, _, .int (N : Int), rfl, rfl, ?_, hN, ?_⟩
  · refine .inl (.inl ?_)
    show upd (upd (upd (upd H P0 o1) P0 o2) tp _) P0 o3 tp = _
    rw [upd_upd (H := H)]
    exact eT2
  show gName 17 (.int (N : Int)) _ (upd (upd (upd (upd H P0 o1) P0 o2) tp (.tup [.int (9990 + (n1 : Int)), .int (n2 : Int)])) P0 o3) _
  rw [upd_upd (H := H)]
  generalize upd (upd (upd H P0 o2) tp (.tup [.int (9990 + (n1 : Int)), .int (n2 : Int)])) P0 o3 = H1 at m ⊢
  clear eT2 eT htp pool3 pool2 pool1 npt
  -- place
  refine ⟨_, rfl, P0, 3, rfl, by decide, by decide, m.pool, fun v4 o4 h4 h4' pool4 => ?_⟩
  replace m := m.put pool4
  obtain ⟨p, rfl⟩ : ∃ n : Nat, v4 = (n : Int) := ⟨v4.toNat, by omega⟩
  replace m : Md P0 G M1 N1 L1 E1 D1 X1 k hl (upd H1 P0 o4) := m
  show gName 18 (.int (p : Int)) _ (upd H1 P0 o4) _
  generalize upd H1 P0 o4 = H2 at m ⊢
  have hp : p < 3 := by omega
  have ec3 : cutV (oW.map V.str) none (some 3) = (oW.take 3).map V.str := cut_take V.str oW 3
  -- the three lists
  refine ⟨_, rfl, (by show 4 ≤ sizeLine; omega), fun B1 hB1 => ?_⟩
  replace m := m.same (same_upd (o := .lst [.str "member", .str "ann", .str "has", .str "iron"]) hB1)
  have eB1 : upd H2 B1 (.lst [.str "member", .str "ann", .str "has", .str "iron"]) B1 = some (.lst [.str "member", .str "ann", .str "has", .str "iron"]) := upd_same
  refine ⟨G, B1, _, _, rfl, rfl, m.eG, eB1, (by show 8 + 4 ≤ sizeLine; omega), fun Y1 hY1 => ?_⟩
  have eY1 : upd (upd H2 B1 (.lst [.str "member", .str "ann", .str "has", .str "iron"])) Y1 (.lst (gW.map V.str ++ [.str "member", .str "ann", .str "has", .str "iron"])) Y1 = some (.lst ((plW 0).map V.str)) := upd_same
  replace m := m.same (same_upd (o := .lst (gW.map V.str ++ [.str "member", .str "ann", .str "has", .str "iron"])) hY1)
  generalize upd (upd H2 B1 (.lst [.str "member", .str "ann", .str "has", .str "iron"])) Y1 (.lst (gW.map V.str ++ [.str "member", .str "ann", .str "has", .str "iron"])) = H3 at eY1 m ⊢
  refine ⟨_, rfl, _, rfl, G, M1, _, _, rfl, rfl, m.eG, m.eM, (by show 8 + 6 ≤ sizeLine; omega), fun A2 hA2 => ?_⟩
  replace m := m.same (same_upd (o := .lst (gW.map V.str ++ mW.map V.str)) hA2)
  replace eY1 := (same_upd (o := .lst (gW.map V.str ++ mW.map V.str)) hA2) _ _ eY1
  have eA2 : upd H3 A2 (.lst (gW.map V.str ++ mW.map V.str)) A2 = some (.lst (gW.map V.str ++ mW.map V.str)) := upd_same
  refine ⟨(by show 3 ≤ sizeLine; omega), fun B2 hB2 => ?_⟩
  replace m := m.same (same_upd (o := .lst [.str "recipe", .str "r", .str "cost"]) hB2)
  replace eY1 := (same_upd (o := .lst [.str "recipe", .str "r", .str "cost"]) hB2) _ _ eY1
  replace eA2 := (same_upd (o := .lst [.str "recipe", .str "r", .str "cost"]) hB2) _ _ eA2
  refine ⟨A2, B2, _, _, rfl, rfl, eA2, upd_same, (by show 14 + 3 ≤ sizeLine; omega), fun Y2 hY2 => ?_⟩
  have eY2 : upd (upd (upd H3 A2 (.lst (gW.map V.str ++ mW.map V.str))) B2 (.lst [.str "recipe", .str "r", .str "cost"])) Y2 (.lst ((gW.map V.str ++ mW.map V.str) ++ [.str "recipe", .str "r", .str "cost"])) Y2 = some (.lst ((plW 1).map V.str)) := upd_same
  replace m := m.same (same_upd (o := .lst ((gW.map V.str ++ mW.map V.str) ++ [.str "recipe", .str "r", .str "cost"])) hY2)
  replace eY1 := (same_upd (o := .lst ((gW.map V.str ++ mW.map V.str) ++ [.str "recipe", .str "r", .str "cost"])) hY2) _ _ eY1
  generalize upd (upd (upd H3 A2 (.lst (gW.map V.str ++ mW.map V.str))) B2 (.lst [.str "recipe", .str "r", .str "cost"])) Y2 (.lst ((gW.map V.str ++ mW.map V.str) ++ [.str "recipe", .str "r", .str "cost"])) = H4 at eY1 eY2 m ⊢
  refine ⟨_, rfl, _, rfl, G, M1, _, _, rfl, rfl, m.eG, m.eM, (by show 8 + 6 ≤ sizeLine; omega), fun A3 hA3 => ?_⟩
  have sA3 : Same H4 (upd H4 A3 (.lst (gW.map V.str ++ mW.map V.str))) := same_upd hA3
  have eA3 : upd H4 A3 (.lst (gW.map V.str ++ mW.map V.str)) A3 = some (.lst (gW.map V.str ++ mW.map V.str)) := upd_same
  refine ⟨_, rfl, _, rfl, L1, _, rfl, .inl (.inl (sA3 _ _ m.eL)), fun B3 hB3 => ?_⟩
  rw [ec3]
  refine ⟨A3, B3, _, _, rfl, rfl, (same_upd hB3) _ _ eA3, upd_same, (by show 14 + 3 ≤ sizeLine; omega), fun Y3 hY3 => ?_⟩
  have eY3 : upd (upd (upd H4 A3 (.lst (gW.map V.str ++ mW.map V.str))) B3 (.lst ((oW.take 3).map V.str))) Y3 (.lst ((gW.map V.str ++ mW.map V.str) ++ (oW.take 3).map V.str)) Y3 = some (.lst ((plW 2).map V.str)) := upd_same
  have sY3 := (sA3.trans (same_upd (o := .lst ((oW.take 3).map V.str)) hB3)).trans (same_upd (o := .lst ((gW.map V.str ++ mW.map V.str) ++ (oW.take 3).map V.str)) hY3)
  replace m := m.same sY3
  replace eY1 := sY3 _ _ eY1
  replace eY2 := sY3 _ _ eY2
  generalize upd (upd (upd H4 A3 (.lst (gW.map V.str ++ mW.map V.str))) B3 (.lst ((oW.take 3).map V.str))) Y3 (.lst ((gW.map V.str ++ mW.map V.str) ++ (oW.take 3).map V.str)) = H5 at eY1 eY2 eY3 m ⊢
  refine ⟨(by show 3 ≤ sizeLine; omega), fun Z1 hZ1 => ?_⟩
  dsimp only [tNil]
  obtain ⟨W, hW, eW⟩ : ∃ W : Addr, atI [V.ref Y1, V.ref Y2, V.ref Y3] (p : Int) = some (.ref W) ∧ H5 W = some (.lst ((plW p).map V.str)) := by
    have : p = 0 ∨ p = 1 ∨ p = 2 := by omega
    rcases this with rfl | rfl | rfl
    · exact ⟨Y1, rfl, eY1⟩
    · exact ⟨Y2, rfl, eY2⟩
    · exact ⟨Y3, rfl, eY3⟩
  refine ⟨_, rfl, Z1, _, _, .ref W, rfl, rfl, .inl (.inl upd_same), hW, ?_⟩
  replace m := m.same (same_upd (o := .lst [.ref Y1, .ref Y2, .ref Y3]) hZ1)
  replace eW := (same_upd (o := .lst [.ref Y1, .ref Y2, .ref Y3]) hZ1) _ _ eW
  show gName 16 (.ref W) _ (upd H5 Z1 (.lst [.ref Y1, .ref Y2, .ref Y3])) _
  generalize upd H5 Z1 (.lst [.ref Y1, .ref Y2, .ref Y3]) = H6 at m eW ⊢
  -- the rest
  refine ⟨(by show 0 ≤ sizeLine; omega), fun R0 hR0 => ?_⟩
  refine ⟨(by show 2 ≤ sizeLine; omega), fun R1 hR1 => ?_⟩
  refine ⟨(by show 3 ≤ sizeLine; omega), fun R2 hR2 => ?_⟩
  refine ⟨(by show 3 ≤ sizeLine; omega), fun Z2 hZ2 => ?_⟩
  dsimp only [tNil] at hR1 hR2 hZ2 ⊢
  have s1 := same_upd (o := .lst []) hR0
  have s2 := same_upd (o := .lst [.str "times", .str "2"]) hR1
  have s3 := same_upd (o := .lst [.str "takes", .str "iron", .str "3"]) hR2
  have s4 := same_upd (o := .lst [.ref R0, .ref R1, .ref R2]) hZ2
  obtain ⟨R, hR, eR⟩ : ∃ R : Addr, atI [V.ref R0, V.ref R1, V.ref R2] (p : Int) = some (.ref R) ∧ (upd (upd (upd (upd H6 R0 (.lst [])) R1 (.lst [.str "times", .str "2"])) R2 (.lst [.str "takes", .str "iron", .str "3"])) Z2 (.lst [.ref R0, .ref R1, .ref R2])) R = some (.lst ((reW p).map V.str)) := by
    have : p = 0 ∨ p = 1 ∨ p = 2 := by omega
    rcases this with rfl | rfl | rfl
    · exact ⟨R0, rfl, s4 _ _ (s3 _ _ (s2 _ _ upd_same))⟩
    · exact ⟨R1, rfl, s4 _ _ (s3 _ _ upd_same)⟩
    · exact ⟨R2, rfl, s4 _ _ upd_same⟩
  refine ⟨_, rfl, Z2, _, _, .ref R, rfl, rfl, .inl (.inl upd_same), hR, ?_⟩
  have s5 := ((s1.trans s2).trans s3).trans s4
  replace m := m.same s5
  replace eW := s5 _ _ eW
  show gName 19 (.ref R) _ (upd (upd (upd (upd H6 R0 (.lst [])) R1 (.lst [.str "times", .str "2"])) R2 (.lst [.str "takes", .str "iron", .str "3"])) Z2 (.lst [.ref R0, .ref R1, .ref R2])) _
  generalize (upd (upd (upd (upd H6 R0 (.lst [])) R1 (.lst [.str "times", .str "2"])) R2 (.lst [.str "takes", .str "iron", .str "3"])) Z2 (.lst [.ref R0, .ref R1, .ref R2])) = H7 at m eW eR ⊢
  clear s1 s2 s3 s4 s5 hR0 hR1 hR2 hZ2
  obtain ⟨ws, hws⟩ : ∃ ws, (plW p ++ [natS N]) ++ reW p = ws := ⟨_, rfl⟩
  have hNb : N ≤ 1000000 := by
    rcases hN2 with ⟨n, h, e⟩ | h <;> omega
  have lp : (plW p).length ≤ 100 := by
    have : p = 0 ∨ p = 1 ∨ p = 2 := by omega
    rcases this with rfl | rfl | rfl <;> decide
  have lr : (reW p).length ≤ 100 := by
    have : p = 0 ∨ p = 1 ∨ p = 2 := by omega
    rcases this with rfl | rfl | rfl <;> decide
  have tg : TextOk ws ∧ Good ws (if 9999 < N then some (plW p).length else none) := by
    rw [← hws]
    rcases hN2 with ⟨n, h, e⟩ | h
    · have z := List.all_eq_true.mp (List.all_eq_true.mp t12 n (List.mem_range.mpr h)) p (List.mem_range.mpr hp)
      have z1 := goodB_ok (Bool.and_eq_true_iff.mp z).1
      rw [e]
      exact z1
    · have z := List.all_eq_true.mp (List.all_eq_true.mp t12 N (List.mem_range.mpr h)) p (List.mem_range.mpr hp)
      have z1 := goodB_ok (Bool.and_eq_true_iff.mp z).2
      rw [if_neg (by omega)]
      exact z1
  obtain ⟨tk, gd⟩ := tg
  -- due
  refine ⟨⟨_, rfl⟩, _, rfl, _, rfl, _, rfl, nat_log hNb, (by show 1 ≤ sizeLine; omega), fun B5 hB5 => ?_⟩
  refine ⟨W, B5, _, _, rfl, rfl, (same_upd hB5) _ _ eW, upd_same, (by rw [List.length_map]; show _ + 1 ≤ _; omega), fun C5 hC5 => ?_⟩
  have eC5 : upd (upd H7 B5 (.lst [.str (natS N)])) C5 (.lst ((plW p).map V.str ++ [.str (natS N)])) C5 = some (.lst ((plW p ++ [natS N]).map V.str)) := by
    rw [upd_same, List.map_append]
    rfl
  have sC5 := (same_upd (o := .lst [.str (natS N)]) hB5).trans (same_upd (o := .lst ((plW p).map V.str ++ [.str (natS N)])) hC5)
  refine ⟨_, rfl, C5, R, _, _, rfl, rfl, eC5, sC5 _ _ eR, (by rw [List.length_map, List.length_map, List.length_append]; show _ + 1 + _ ≤ _; omega), fun U5 hU5 => ?_⟩
  have eU5 : upd (upd (upd H7 B5 (.lst [.str (natS N)])) C5 (.lst ((plW p).map V.str ++ [.str (natS N)]))) U5 (.lst ((plW p ++ [natS N]).map V.str ++ (reW p).map V.str)) U5 = some (.lst (ws.map V.str)) := by
    rw [upd_same, ← List.map_append, hws]
  have sU5 := sC5.trans (same_upd (o := .lst ((plW p ++ [natS N]).map V.str ++ (reW p).map V.str)) hU5)
  replace m := m.same sU5
  replace eW := sU5 _ _ eW
  replace eR := sU5 _ _ eR
  have js := join_sum tk
  refine ⟨" ", U5, ws, rfl, rfl, .inl (.inl (.inl eU5)), js, ?_⟩
  show gName 20 (.str (Txt.join " " ws)) _ (upd (upd (upd H7 B5 (.lst [.str (natS N)])) C5 (.lst ((plW p).map V.str ++ [.str (natS N)]))) U5 (.lst ((plW p ++ [natS N]).map V.str ++ (reW p).map V.str))) _
  generalize (upd (upd (upd H7 B5 (.lst [.str (natS N)])) C5 (.lst ((plW p).map V.str ++ [.str (natS N)]))) U5 (.lst ((plW p ++ [natS N]).map V.str ++ (reW p).map V.str))) = H8 at m eW eR ⊢
  clear sU5 sC5 eU5 eC5 hB5 hC5 hU5
  refine ⟨_, rfl, _, _, rfl, rfl, _, rfl, ?_⟩
  by_cases c : 9999 < N
  · refine ifT (decide_eq_true (by omega)) ?_
    refine ⟨_, rfl, _, _, rfl, .inl (.inl (.inl eW)), ?_⟩
    have el : (((plW p).map V.str).length : Int) = (((plW p).length : Nat) : Int) := by rw [List.length_map]
    rw [el]
    refine ⟨MdAt a, ?_, hk⟩
    refine ⟨_, rfl, _, rfl, _, rfl, nat_log hNb, (by show 1 ≤ sizeLine; omega), fun B6 hB6 => ?_⟩
    refine ⟨W, B6, _, _, rfl, rfl, (same_upd hB6) _ _ eW, upd_same, (by rw [List.length_map]; show _ + 1 ≤ _; omega), fun C6 hC6 => ?_⟩
    have eC6 : upd (upd H8 B6 (.lst [.str (natS N)])) C6 (.lst ((plW p).map V.str ++ [.str (natS N)])) C6 = some (.lst ((plW p ++ [natS N]).map V.str)) := by
      rw [upd_same, List.map_append]
      rfl
    have sC6 := (same_upd (o := .lst [.str (natS N)]) hB6).trans (same_upd (o := .lst ((plW p).map V.str ++ [.str (natS N)])) hC6)
    refine ⟨_, rfl, C6, R, _, _, rfl, rfl, eC6, sC6 _ _ eR, (by rw [List.length_map, List.length_map, List.length_append]; show _ + 1 + _ ≤ _; omega), fun U6 hU6 => ?_⟩
    have eU6 : upd (upd (upd H8 B6 (.lst [.str (natS N)])) C6 (.lst ((plW p).map V.str ++ [.str (natS N)]))) U6 (.lst ((plW p ++ [natS N]).map V.str ++ (reW p).map V.str)) U6 = some (.lst (ws.map V.str)) := by
      rw [upd_same, ← List.map_append, hws]
    replace m := m.same (sC6.trans (same_upd (o := .lst ((plW p ++ [natS N]).map V.str ++ (reW p).map V.str)) hU6))
    dsimp only [tNil, List.cons_append, List.nil_append]
    refine law_at_of tk gd (.inl (.inl eU6)) fun H9 s9 => ?_
    replace m := m.same s9
    refine ⟨_, rfl, _, _, dueD ws (if 9999 < N then some (plW p).length else none), rfl, due_dp _ _, ?_, due_fits _ _, _, rfl, ifF rfl ?_⟩
    · rw [if_pos c]
      exact .int _
    · exact ⟨P0, G, M1, N1, L1, E1, D1, T1, D2, X1, k, hl, _, _, _, _, _, _, _, _, _, _, _, rfl, m⟩
  · refine ifF (decide_eq_false (by omega)) ?_
    refine ⟨MdAt a, ?_, hk⟩
    refine ⟨_, rfl, _, rfl, _, rfl, nat_log hNb, (by show 1 ≤ sizeLine; omega), fun B6 hB6 => ?_⟩
    refine ⟨W, B6, _, _, rfl, rfl, (same_upd hB6) _ _ eW, upd_same, (by rw [List.length_map]; show _ + 1 ≤ _; omega), fun C6 hC6 => ?_⟩
    have eC6 : upd (upd H8 B6 (.lst [.str (natS N)])) C6 (.lst ((plW p).map V.str ++ [.str (natS N)])) C6 = some (.lst ((plW p ++ [natS N]).map V.str)) := by
      rw [upd_same, List.map_append]
      rfl
    have sC6 := (same_upd (o := .lst [.str (natS N)]) hB6).trans (same_upd (o := .lst ((plW p).map V.str ++ [.str (natS N)])) hC6)
    refine ⟨_, rfl, C6, R, _, _, rfl, rfl, eC6, sC6 _ _ eR, (by rw [List.length_map, List.length_map, List.length_append]; show _ + 1 + _ ≤ _; omega), fun U6 hU6 => ?_⟩
    have eU6 : upd (upd (upd H8 B6 (.lst [.str (natS N)])) C6 (.lst ((plW p).map V.str ++ [.str (natS N)]))) U6 (.lst ((plW p ++ [natS N]).map V.str ++ (reW p).map V.str)) U6 = some (.lst (ws.map V.str)) := by
      rw [upd_same, ← List.map_append, hws]
    replace m := m.same (sC6.trans (same_upd (o := .lst ((plW p ++ [natS N]).map V.str ++ (reW p).map V.str)) hU6))
    dsimp only [tNil, List.cons_append, List.nil_append]
    refine law_at_of tk gd (.inl (.inl eU6)) fun H9 s9 => ?_
    replace m := m.same s9
    refine ⟨_, rfl, _, _, dueD ws (if 9999 < N then some (plW p).length else none), rfl, due_dp _ _, ?_, due_fits _ _, _, rfl, ifF rfl ?_⟩
    · rw [if_neg c]
      exact .str _
    · exact ⟨P0, G, M1, N1, L1, E1, D1, T1, D2, X1, k, hl, _, _, _, _, _, _, _, _, _, _, _, rfl, m⟩
end

/-! ### draws that tell where the numbers are; names of any letters -/
/-- the pool at p, its numbers at s -/
def PoolS (H : Hp) (p s : Addr) : Prop := ∃ ns i cur seed run bud, PoolIs H p s ns i cur seed run bud
theorem PoolS.there {H : Hp} {p s : Addr} (h : PoolS H p s) : ∃ i cur seed run bud, H p = some (poolO s i cur seed run bud) := by
  obtain ⟨ns, i, cur, seed, run, bud, h⟩ := h
  exact ⟨i, cur, seed, run, bud, h.at_⟩
theorem PoolS.same {H H' : Hp} {p s : Addr} (h : PoolS H p s) (e : Same H H') : PoolS H' p s := by
  obtain ⟨ns, i, cur, seed, run, bud, h⟩ := h
  exact ⟨ns, i, cur, seed, run, bud, e _ _ h.at_, e _ _ h.sc, h.ne, h.i0, h.s0, h.s1⟩
theorem PoolS.ne {H : Hp} {p s q : Addr} (h : PoolS H p s) (hq : H q = none) : q ≠ p := fun z => by
  obtain ⟨_, _, _, _, _, e⟩ := h.there
  rw [z, e] at hq
  cases hq
theorem PoolS.neS {H : Hp} {p s q : Addr} (h : PoolS H p s) (hq : H q = none) : q ≠ s := fun z => by
  obtain ⟨ns, i, cur, seed, run, bud, h⟩ := h
  rw [z, h.sc] at hq
  cases hq
/-- another cell is written -/
theorem PoolS.own {H : Hp} {p s q : Addr} {o : HO} (h : PoolS H p s) (n1 : q ≠ p) (n2 : q ≠ s) : PoolS (upd H q o) p s := by
  obtain ⟨ns, i, cur, seed, run, bud, h⟩ := h
  exact ⟨ns, i, cur, seed, run, bud, (upd_ne (Ne.symm n1)).trans h.at_, (upd_ne (Ne.symm n2)).trans h.sc, h.ne, h.i0, h.s0, h.s1⟩
def spDraw2 : Sp := fun vs H Q _ => ∃ (p : Addr) (n : Int), vs = [.ref p, .int n] ∧ 0 < n ∧ n < 1073741824 ∧ ∃ s, PoolS H p s ∧ ∀ (v : Int) (o : HO), 0 ≤ v → v < n → PoolS (upd H p o) p s → Q (.int v) (upd H p o)
section
variable {P : Program} {w : World} {K : PySem.W.Frag} {mg : Str → Option Value} {base : Heap} {f : Addr} {fd : FuncData}
theorem ok__law_draw2 (M : MB mg) (F : FnP K "_law_draw" s__law_draw f fd) : FnOk P w K mg base CX0 1 f fd ["pool", "size"] spDraw2 := by
  refine F.ok sc__law_draw (fun vs H Q E h => ?_) (fun cdv A outer s H vs Q E hr h => ⟨_, PSs.nox (Evl.pss_cut (ps_if (PW.pt (pw_and (pt_cmpR op_le (pe_ix ix_list (pv 0) pe_int (fun _ _ => rfl)) pe_int (nomark _)) (pw_and (pt_cmpR op_le (pe_ix ix_list (pv 0) pe_int (fun _ _ => rfl)) pe_int (nomark _)) (pw_and1 (pt_cmpR op_lt (pe_ix ix_list (pv 0) pe_int (fun _ _ => rfl)) (pe_callB call_len_seq (by rfl) M.len (by decide +kernel) (pa_cons (pe_ix ix_list (pv 0) pe_int (fun _ _ => rfl)) pa_nil)) (nomark _)))))) (pss_cons (ps_set (i := 2) sc__law_draw.nd rfl (.inl rfl) (pe_ix ix_list (pe_ix ix_list (pv 0) pe_int (fun _ _ => rfl)) (pe_ix ix_list (pv 0) pe_int (fun _ _ => rfl)) (fun _ _ => rfl)))
  (pss_cons (ps_asg (pe_op op_add (pe_ix ix_list (pv 0) pe_int (fun _ _ => rfl)) pe_int) (pg_sub (pv 0) pe_int set_list))
  (pss_cons (ps_asg (pe_op op_mod (pe_callTy call_int1 (by rfl) M.int (by decide +kernel) (pa_cons (pe_op op_add (pe_op op_mul (pe_ix ix_list (pv 0) pe_int (fun _ _ => rfl)) pe_int) (pv 2)) pa_nil)) pe_int) (pg_sub (pv 0) pe_int set_list))
  (pss_cons (ps_asg pe_int (pg_sub (pv 0) pe_int set_list))
  (pss_one (ps_if (pt_cmpR op_ge (pv 2) (pe_op op_pow pe_int pe_int) (nomark _)) (pss_one (ps_asg (pv 2) (pg_sub (pv 0) pe_int set_list))) pss_nil)))))) pss_nil)
  (pss_cons (ps_if (pt_cmpR op_gt (pe_ix ix_list (pv 0) pe_int (fun _ _ => rfl)) pe_int (nomark _)) (pss_cons (ps_set (i := 3) sc__law_draw.nd rfl (.inl rfl) (pe_op op_mod (pe_callTy call_int1 (by rfl) M.int (by decide +kernel) (pa_cons (pe_ix ix_list (pv 0) pe_int (fun _ _ => rfl)) pa_nil)) (pv 1)))
  (pss_cons (ps_asg (pe_op op_fdiv (pe_ix ix_list (pv 0) pe_int (fun _ _ => rfl)) (pv 1)) (pg_sub (pv 0) pe_int set_list))
  (pss_cons (ps_asg pe_int (pg_sub (pv 0) pe_int set_list))
  (pss_one (ps_ret (pv 3)))))) pss_nil)
  (pss_cons (ps_asg (pe_op op_sub (pe_ix ix_list (pv 0) pe_int (fun _ _ => rfl)) pe_int) (pg_sub (pv 0) pe_int set_list))
  (pss_cons (ps_asg (pe_op op_mod (pe_callTy call_int1 (by rfl) M.int (by decide +kernel) (pa_cons (pe_op op_add (pe_op op_mul (pe_ix ix_list (pv 0) pe_int (fun _ _ => rfl)) pe_int) pe_int) pa_nil)) pe_int) (pg_sub (pv 0) pe_int set_list))
  (pss_one (ps_ret (pe_op op_mod (pe_op op_mod (pe_callTy call_int1 (by rfl) M.int (by decide +kernel) (pa_cons (pe_op op_add (pe_op op_mul (pe_ix ix_list (pv 0) pe_int (fun _ _ => rfl)) pe_int) pe_int) pa_nil)) pe_int) (pv 1)))))))), ?_⟩)
  · obtain ⟨p, n, rfl, _⟩ := h
    rfl
  · obtain ⟨p, n, rfl, hn, hn2, sc, hP, q⟩ := h
    refine ⟨fun σ' H' => ∃ x2 x3 ns i cur seed run bud, σ' = [some (.ref p), some (.int n), x2, x3] ∧ PoolIs H' p sc ns i cur seed run bud ∧ (∀ o, upd H' p o = upd H p o), ?_, ?_⟩
    · obtain ⟨ns, i, cur, seed, run, bud, h0⟩ := hP
      have sq := pool_ix (K := K) h0
      have sS : SqL K H sc (ns.map V.int) := .inl (.inl h0.sc)
      have ha : H p = some (.lst [.ref sc, .int i, .int cur, .int seed, .int run, .int bud]) := h0.at_
      have stay : ∃ x2 x3 ns i cur seed run bud, [some (.ref p), some (.int n), none, none] = [some (V.ref p), some (.int n), x2, x3] ∧ PoolIs H p sc ns i cur seed run bud ∧ (∀ o, upd H p o = upd H p o) := ⟨_, _, _, _, _, _, _, _, rfl, h0, fun _ => rfl⟩
      walk_at "rd"
      refine ite2 (fun e1 => ?_) (fun e1 => ?_)
      · walk_at "rd"
        refine ite2 (fun e2 => ?_) (fun e2 => ?_)
        · walk_at "rd"
          refine ite2 (fun e3 => ?_) (fun e3 => ?_)
          · have e4 : i < (ns.length : Int) := by
              have := of_decide_eq_true e3
              rw [List.length_map] at this
              exact this
            obtain ⟨j, rfl⟩ : ∃ j : Nat, i = j := ⟨i.toNat, by have := h0.i0; omega⟩
            have e5 : j < ns.length := by omega
            have hc : atI (ns.map V.int) (j : Int) = some (.int ns[j]) := by
              rw [atI_nat (j := j)]
              rw [List.getElem?_map, List.getElem?_eq_getElem e5]
              rfl
            generalize ns[j] = cell at hc
            have hm := Int.emod_nonneg (seed * 31 + cell) (show (2147483647 : Int) ≠ 0 by decide)
            have hm2 := Int.emod_lt_of_pos (seed * 31 + cell) (show (0 : Int) < 2147483647 by decide)
            walk_at "rd"
            refine ⟨_, _, _, _, rfl, rfl, sS, hc, ?_⟩
            walk_at "rd"
            refine ite2 (fun e6 => ?_) (fun e6 => ?_)
            · walk_at "rd"
              rw [upd_upd, upd_upd, upd_upd]
              exact ⟨some (.int cell), none, ns, (j : Int) + 1, cell, (seed * 31 + cell) % 2147483647, 7, bud, rfl, h0.put (by omega) hm hm2, fun _ => upd_upd⟩
            · rw [upd_upd, upd_upd]
              exact ⟨some (.int cell), none, ns, (j : Int) + 1, cur, (seed * 31 + cell) % 2147483647, 7, bud, rfl, h0.put (by omega) hm hm2, fun _ => upd_upd⟩
          · exact stay
        · exact iteF stay
      · exact iteF stay
    · rintro σ' H' ⟨x2, x3, ns, i, cur, seed, run, bud, rfl, h0, hu⟩
      have sq := pool_ix (K := K) h0
      have ha : H' p = some (.lst [.ref sc, .int i, .int cur, .int seed, .int run, .int bud]) := h0.at_
      have hs0 := h0.s0
      have hs1 := h0.s1
      walk_at "rd"
      refine ite2 (fun e1 => ?_) (fun e1 => ?_)
      · walk_at "rd"
        rw [upd_upd, hu]
        refine q _ _ (Int.emod_nonneg _ (by omega)) (Int.emod_lt_of_pos _ hn) ?_
        rw [← hu]
        exact ⟨ns, i, cur / n, seed, 0, bud, h0.put h0.i0 h0.s0 h0.s1⟩
      · walk_at "rd"
        rw [upd_upd, hu]
        refine q _ _ (Int.emod_nonneg _ (by omega)) (Int.emod_lt_of_pos _ hn) ?_
        rw [← hu]
        exact ⟨ns, i, cur, (seed * 48271 + 12345) % 2147483647, run - 1, bud, h0.put h0.i0 (Int.emod_nonneg _ (by decide)) (Int.emod_lt_of_pos _ (by decide))⟩
end
theorem letter_of {c : Nat} (h1 : 97 ≤ c) (h2 : c ≤ 122) : letterS c = true := by
  unfold letterS leS
  have e0 : (Str.ofString "a").cps.toList = [97] := by decide
  have e9 : (Str.ofString "z").cps.toList = [122] := by decide
  simp only [e0, e9, Bool.and_eq_true, Bool.not_eq_true', decide_eq_false_iff_not, List.cons_lt_cons_iff]
  simp
  omega
def oneS (c : Nat) : Str := ⟨#[c]⟩
theorem joinL_nil : ∀ l : List Nat, TL.joinL [] (l.map fun c => [c]) = l
  | [] => rfl
  | [_] => rfl
  | c :: d :: l => by
    have ih := joinL_nil (d :: l)
    rw [List.map_cons] at ih
    rw [List.map_cons, List.map_cons, TL.joinL, ih]
    rfl
theorem join_ones (cs : List Nat) : TL.tl (Txt.join "" (cs.map oneS)) = cs := by
  rw [TL.join_eq, TL.tl_join, List.map_map]
  exact joinL_nil cs
theorem key_short : ∀ k ∈ KEYS, k.length ≤ 6 := by decide
theorem not_key {z : Str} (h : 7 ≤ z.length) : inV (.str z) (KEYS.map V.str) = false := by
  unfold inV
  rw [List.any_map]
  refine List.any_eq_false.mpr fun k hk e => ?_
  have e2 : k = z := by
    have : eqV (.str k) (.str z) = true := e
    simpa [eqV] using this
  have := key_short k hk
  rw [e2] at this
  omega
def nW4 (z : Str) : List Str := ["good", z, "member", z]
theorem name_yes {z : Str} (h : isName z = true) : readHouse (nW4 z) = .ok ⟨[z], [(z, [])], [], [], []⟩ := by
  have w0 : wordAt (nW4 z) 0 = "good" := rfl
  have w1 : wordAt (nW4 z) 1 = z := rfl
  have w2 : wordAt (nW4 z) 2 = "member" := rfl
  have w3 : wordAt (nW4 z) 3 = z := rfl
  have w4 : wordAt (nW4 z) 4 = Str.empty := rfl
  have n1 : nameOk (nW4 z) 1 [] = true := by unfold nameOk; rw [w1, h]; rfl
  have n3 : nameOk (nW4 z) 3 [] = true := by unfold nameOk; rw [w3, h]; rfl
  have g : readGoods (nW4 z) = .ok ([z], 2) := by
    unfold readGoods
    rw [goodsGo, if_pos (.inl rfl), if_pos w0, if_pos n1, goodsGo, if_neg]
    · rfl
    · rintro (c | c)
      · cases c
      · rw [show (0 : Nat) + 2 = 2 from rfl, w2] at c
        exact absurd c (by decide)
  have m : readMembers (nW4 z) 2 [z] = .ok ([(z, [])], 4) := by
    have a : readAmounts (nW4 z) 4 "has" [z] = .ok ([], 4) := by
      unfold readAmounts
      show amountsGo (nW4 z) "has" [z] 1 [0] [] 4 = _
      rw [amountsGo, if_neg (by rw [w4]; decide)]
    unfold readMembers
    have a2 : readAmounts (nW4 z) (2 + 2) "has" [z] = .ok ([], 4) := a
    rw [membGo, if_pos (.inl rfl), if_pos w2, if_pos (show nameOk (nW4 z) (2 + 1) (List.map (·.1) ([] : List Memb)) = true from n3), a2]
    show membGo (nW4 z) [z] 4 [(z, [])] 4 = _
    rw [membGo, if_neg]
    rintro (c | c)
    · cases c
    · rw [w4] at c
      exact absurd c (by decide)
  have r : readRecipes (nW4 z) 4 [z] [z] = .ok ([], 4) := by
    unfold readRecipes
    rw [reciGo, if_neg (by rw [w4]; decide)]
  have o : readOrders (nW4 z) 4 [z] = .ok ([], 4) := by
    unfold readOrders
    rw [ordGo, if_neg (by rw [w4]; decide)]
  have t : readTalks (nW4 z) 4 [z] = .ok ([], 4) := rfl
  unfold readHouse
  simp only [g, m, List.map_cons, List.map_nil, t, r, o]
  exact if_neg (Nat.lt_irrefl 4)
theorem name_no {z : Str} (h : isName z = false) : readHouse (nW4 z) = .error 1 := by
  have w0 : wordAt (nW4 z) 0 = "good" := rfl
  have w1 : wordAt (nW4 z) 1 = z := rfl
  have n1 : ¬ nameOk (nW4 z) 1 [] = true := by unfold nameOk; rw [w1, h]; exact Bool.false_ne_true
  have g : readGoods (nW4 z) = .error 1 := by
    unfold readGoods
    rw [goodsGo, if_pos (.inl rfl), if_pos w0, if_neg n1]
  unfold readHouse
  rw [g]
theorem name_due {z : Str} (h1 : 7 ≤ z.length) (h2 : z.length ≤ 9) (hc : ∀ c ∈ TL.tl z, 97 ≤ c ∧ c ≤ 122) : TextOk (nW4 z) ∧ Good (nW4 z) (if 8 < z.length then some 1 else none) := by
  have s32 : 32 ∉ TL.tl z := fun m => by
    have := hc 32 m
    omega
  have tk : TextOk (nW4 z) := by
    refine ⟨by unfold nW4; exact List.cons_ne_nil _ _, fun x hx => ?_, fun x hx => ?_, Nat.le_of_ble_eq_true rfl, fun x hx => ?_⟩
    · simp only [nW4, List.mem_cons, List.not_mem_nil, or_false] at hx
      rcases hx with rfl | rfl | rfl | rfl
      · decide
      · exact s32
      · decide
      · exact s32
    · simp only [nW4, List.mem_cons, List.not_mem_nil, or_false] at hx
      rcases hx with rfl | rfl | rfl | rfl
      · decide
      · omega
      · decide
      · omega
    · simp only [nW4, List.mem_cons, List.not_mem_nil, or_false] at hx
      rcases hx with rfl | rfl | rfl | rfl
      · decide
      · omega
      · decide
      · omega
  refine ⟨tk, ?_⟩
  by_cases c : 8 < z.length
  · rw [if_pos c]
    refine name_no ?_
    unfold isName
    rw [decide_eq_false (show ¬ z.length ≤ 8 by omega)]
    simp
  · rw [if_neg c]
    have hn : isName z = true := by
      unfold isName
      rw [not_key h1, decide_eq_true (show 1 ≤ z.length by omega), decide_eq_true (show z.length ≤ 8 by omega)]
      exact List.all_eq_true.mpr fun x hx => letter_of (hc x hx).1 (hc x hx).2
    have e : housWords ⟨[z], [(z, [])], [], [], []⟩ = nW4 z := rfl
    have sl := sum_le tk.short
    refine ⟨_, name_yes hn, ⟨⟨Nat.le_of_ble_eq_true rfl, Nat.le_of_ble_eq_true rfl, fun x hx => ?_, Nat.le_of_ble_eq_true rfl, (fun _ h => by cases h), Nat.le_of_ble_eq_true rfl, (fun _ h => by cases h), Nat.le_of_ble_eq_true rfl, (fun _ h => by cases h)⟩, by rw [e]; exact Nat.le_of_ble_eq_true rfl, by rw [e]; have : (nW4 z).length = 4 := rfl; omega⟩, e⟩
    rw [List.mem_singleton.mp hx]
    exact ⟨(fun _ h => by cases h), Nat.le_of_ble_eq_true rfl⟩

section
variable {P : Program} {w : World} {K : PySem.W.Frag} {mg : Str → Option Value} {base : Heap} {f : Addr} {cdv : Value} {A : Around} {outer : List Env} {s : Shared} {H0 : Hp} {E : XK}
set_option maxHeartbeats 8000000 in
theorem law3_F (M : MB mg) (C__law_draw : Callee P w K mg base CX0 "_law_draw" ["pool", "size"] 1 spDraw2) (C__law_at : Callee P w K mg base CX0 "_law_at" ["words"] 10 (spLawAt K))
    (C__law_same : Callee P w K mg base CX0 "_law_same" ["actual", "due"] 2 (spSame K 1)) (hr : Room 11 (A.deeper (envOfC "law" (defScope s_law) s.heap.objs.size f cdv))) {a : Addr} :
    ∃ t, PSs (XL3 P w K mg base f cdv A outer s H0 E) ((defBody s_law).drop 31) t ∧ ∀ (D : Ends) (σ : L2.St) (H : Hp), MdAt a σ H → (∀ H', D.rt (.bl true) H') → t D σ H := by
  refine ⟨_, (pss_cons (ps_set (i := 7) sc_law.nd rfl (.inl rfl) (pe_joinK (K := K) rfl pe_str (pe_lc (own := [("k", 22)]) (g := gName 22) (by rfl) sc_law.nd (pi_range1 (by rfl) M.range (pa_cons (pe_op op_add pe_int (pe_callC C__law_draw (hr.mono (by first | decide | exact Nat.le_refl _ | omega)) (by rfl) (pa_cons (pv 1) (pa_cons pe_int pa_nil)))) pa_nil)) (blkOk_by (own := [("k", 22)]) (N := N_law) (sc := defScope s_law) (by decide +kernel)) (fun _ _ _ _ _ => pg_name (i := 22) sc_law.nd rfl (.inl rfl)) (fun _ _ _ _ _ => pts_nil) (fun _ _ _ _ _ => (pe_ix ix_str pe_str (pe_callC C__law_draw (hr.mono (by first | decide | exact Nat.le_refl _ | omega)) (by rfl) (pa_cons (pv 1) (pa_cons pe_int pa_nil))) (fun _ _ => rfl))))))
  (pss_cons (ps_set (i := 20) sc_law.nd rfl (.inl rfl) (pe_joinK (K := K) rfl pe_str (pe_lst (pa_cons pe_str (pa_cons (pv 7) (pa_cons pe_str (pa_cons (pv 7) pa_nil)))))))
  (pss_cons (ps_if (pt_cmpR op_gt (pe_callB call_len_str (by rfl) M.len (by decide +kernel) (pa_cons (pv 7) pa_nil)) pe_int (nomark _)) (pss_one (ps_set (i := 20) sc_law.nd rfl (.inl rfl) pe_int)) pss_nil)
  (pss_one (ps_ret (pe_callC C__law_same (hr.mono (by first | decide | exact Nat.le_refl _ | omega)) (by rfl) (pa_cons (pe_callC C__law_at (hr.mono (by first | decide | exact Nat.le_refl _ | omega)) (by rfl) (pa_cons (pe_lst (pa_cons pe_str (pa_cons (pv 7) (pa_cons pe_str (pa_cons (pv 7) pa_nil))))) pa_nil)) (pa_cons (pv 20) pa_nil)))))))), fun D σ H hm hk => ?_⟩
  obtain ⟨P0, G, M1, N1, L1, E1, D1, T1, D2, X1, k, hl, z12, z13, z14, z15, z16, z17, z18, z19, z20, z21, z22, rfl, m⟩ := hm
  have hsz := sizeLine_eq
  obtain ⟨sc, hP⟩ : ∃ s, PoolS H P0 s := by
    obtain ⟨s, r⟩ := m.pool
    exact ⟨s, r⟩
  clear m
  refine ⟨⟨_, rfl⟩, _, rfl, P0, 3, rfl, by decide, by decide, sc, hP, fun v o h0 h3 p1 => ?_⟩
  obtain ⟨n, rfl⟩ : ∃ n : Nat, v = (n : Int) := ⟨v.toNat, by omega⟩
  refine ⟨_, _, rfl, rfl, _, rfl, by omega, by omega, fun D1 hD1 => ?_⟩
  replace hD1 : upd H P0 o D1 = none := hD1
  have nD := p1.ne hD1
  have nS := p1.neS hD1
  have abc : ∀ j : Nat, j < 26 → atI ("abcdefghijklmnopqrstuvwxyz" : Str).cps.toList (j : Int) = some (97 + j) := by decide
  refine lc_range (lo := 0) (n := ((7 : Int) + (n : Int)).toNat) (fun i H' => ∃ cs : List Nat, H' D1 = some (.lst (cs.map fun c => V.str (oneS c))) ∧ cs.length = i ∧ (∀ c ∈ cs, 97 ≤ c ∧ c ≤ 122) ∧ PoolS H' P0 sc) ⟨[], upd_same, rfl, (fun _ h => by cases h), p1.own nD nS⟩ ?_ ?_
  · rintro i H' hi ⟨cs, e1, l1, c1, p2⟩
    refine ⟨rfl, yes_of ?_⟩
    refine ⟨_, rfl, P0, 26, rfl, by decide, by decide, sc, p2, fun v2 o2 g0 g1 p3 => ?_⟩
    obtain ⟨j, rfl⟩ : ∃ n : Nat, v2 = (n : Int) := ⟨v2.toNat, by omega⟩
    refine ⟨_, _, 97 + j, rfl, rfl, (by show 26 ≤ sizeLine; omega), abc j (by omega), ?_⟩
    refine ⟨_, (upd_ne nD).trans e1, by rw [List.length_map]; omega, cs ++ [97 + j], by rw [upd_same, List.map_append]; rfl, by rw [List.length_append, l1]; rfl, fun c hc => ?_, p3.own nD nS⟩
    rcases List.mem_append.mp hc with h | h
    · exact c1 c h
    · rw [List.mem_singleton.mp h]
      omega
  rintro H2 ⟨cs, e1, l1, c1, _⟩
  have lc : cs.length = 7 + n := by omega
  obtain ⟨z, hz⟩ : ∃ z, Txt.join "" (cs.map oneS) = z := ⟨_, rfl⟩
  have tz : TL.tl z = cs := by rw [← hz]; exact join_ones cs
  have lz : z.length = cs.length := by
    rw [← tz]
    exact (Array.length_toList (xs := z.cps)).symm
  have ls : ((cs.map oneS).map (·.length)).sum = cs.length := by
    rw [List.map_map]
    clear e1 l1 c1 lc tz lz hz
    induction cs with
    | nil => rfl
    | cons c cs ih =>
      rw [List.map_cons, List.sum_cons, ih, List.length_cons]
      show 1 + _ = _
      omega
  have e0 : ("" : Str).length = 0 := by decide
  refine ⟨"", D1, cs.map oneS, rfl, rfl, .inl (.inl (.inl (by rw [e1, List.map_map]; rfl))), by rw [ls, e0]; omega, ?_⟩
  rw [hz]
  obtain ⟨tk, gd⟩ := name_due (z := z) (by omega) (by omega) (by rw [tz]; exact c1)
  have js := join_sum tk
  refine ⟨⟨_, rfl⟩, _, rfl, _, rfl, (by show 4 ≤ sizeLine; omega), fun B5 hB5 => ?_⟩
  refine ⟨" ", B5, nW4 z, rfl, rfl, .inl (.inl (.inl upd_same)), js, ?_⟩
  refine ⟨_, rfl, z, rfl, by omega, _, _, rfl, rfl, _, rfl, ?_⟩
  by_cases c : 8 < z.length
  · refine ifT (decide_eq_true (by omega)) ?_
    refine ⟨_, rfl, _, rfl, (by show 4 ≤ sizeLine; omega), fun B6 hB6 => ?_⟩
    dsimp only [tNil, List.cons_append, List.nil_append]
    refine law_at_of (ws := nW4 z) tk gd (.inl (.inl upd_same)) fun H9 s9 => ?_
    refine ⟨_, rfl, _, _, dueD (nW4 z) (if 8 < z.length then some 1 else none), rfl, due_dp _ _, ?_, due_fits _ _, hk _⟩
    rw [if_pos c]
    exact .int _
  · refine ifF (decide_eq_false (by omega)) ?_
    refine ⟨_, rfl, _, rfl, (by show 4 ≤ sizeLine; omega), fun B6 hB6 => ?_⟩
    dsimp only [tNil, List.cons_append, List.nil_append]
    refine law_at_of (ws := nW4 z) tk gd (.inl (.inl upd_same)) fun H9 s9 => ?_
    refine ⟨_, rfl, _, _, dueD (nW4 z) (if 8 < z.length then some 1 else none), rfl, due_dp _ _, ?_, due_fits _ _, hk _⟩
    rw [if_neg c]
    exact .str _
end

section
variable {P : Program} {w : World} {K : PySem.W.Frag} {mg : Str → Option Value} {base : Heap} {f : Addr} {cdv : Value} {A : Around} {outer : List Env} {s : Shared} {H0 : Hp} {E : XK}
theorem law3_D (M : MB mg) (C__law_draw : Callee P w K mg base CX0 "_law_draw" ["pool", "size"] 1 spDraw) (C2 : Callee P w K mg base CX0 "_law_draw" ["pool", "size"] 1 spDraw2) (C__law_at : Callee P w K mg base CX0 "_law_at" ["words"] 10 (spLawAt K))
    (C__law_same : Callee P w K mg base CX0 "_law_same" ["actual", "due"] 2 (spSame K 1)) (hr : Room 11 (A.deeper (envOfC "law" (defScope s_law) s.heap.objs.size f cdv))) {a : Addr} :
    ∃ t, PSs (XL3 P w K mg base f cdv A outer s H0 E) ((defBody s_law).drop 21) t ∧ ∀ (D : Ends) (σ : L2.St) (H : Hp), MdAt a σ H → (∀ H', D.rt (.bl true) H') → t D σ H := by
  obtain ⟨uF, hF, kF⟩ := law3_F (a := a) (w := w) (base := base) (H0 := H0) (E := E) M C2 C__law_at C__law_same hr
  obtain ⟨uE, hE, kE⟩ := law3_E (a := a) (w := w) (base := base) (H0 := H0) (E := E) M C__law_draw C__law_at C__law_same hr hF
  obtain ⟨uD, hD, kD⟩ := law3_D0 (a := a) (w := w) (base := base) (H0 := H0) (E := E) M C__law_draw C__law_at C__law_same hr hE
  exact ⟨uD, hD, fun D σ H hm hk => kD D σ H hm fun _ _ h1 => kE _ _ _ h1 fun _ _ h2 => kF _ _ _ h2 hk⟩
end

/-! ### law k03 -/
def spLaw3 (K : PySem.W.Frag) : Sp := fun vs H Q _ => ∃ (a : Addr) (ns : List Int), vs = [.ref a] ∧ SqL K H a (ns.map V.int) ∧ ∀ H', Q (.bl true) H'
theorem five {v : Int} (h0 : 0 ≤ v) (h1 : v < 5) {p : Nat → Bool} (h : ([2, 3, 4, 5, 6].all p) = true) : p (2 + v).toNat = true := by
  have z := List.all_eq_true.mp h
  refine z _ ?_
  have : v = 0 ∨ v = 1 ∨ v = 2 ∨ v = 3 ∨ v = 4 := by omega
  rcases this with rfl | rfl | rfl | rfl | rfl <;> decide
section
variable {P : Program} {w : World} {K : PySem.W.Frag} {mg : Str → Option Value} {base : Heap} {f kw C fI CH : Addr} {fd : FuncData}
theorem ok_law3 (M : MB mg) (F : FnP K "law" s_law f fd) (C__law_pool : Callee P w K mg base CX0 "_law_pool" ["script", "budget"] 1 (spPool K)) (C__law_draw : Callee P w K mg base CX0 "_law_draw" ["pool", "size"] 1 spDraw) (C2 : Callee P w K mg base CX0 "_law_draw" ["pool", "size"] 1 spDraw2)
    (C__law_many : Callee P w K mg base CX0 "_law_many" ["head", "rows", "upper", "rest"] 11 (spLawMany K)) (C__law_at : Callee P w K mg base CX0 "_law_at" ["words"] 10 (spLawAt K))
    (C__law_same : Callee P w K mg base CX0 "_law_same" ["actual", "due"] 2 (spSame K 1)) : FnOk P w K mg base CX0 12 f fd ["script"] (spLaw3 K) := by
  refine F.ok sc_law (fun vs H Q E h => ?_) (fun cdv A outer s H vs Q E hr h => ?_)
  · obtain ⟨a, ns, rfl, _⟩ := h
    rfl
  · obtain ⟨a, ns, rfl, hs, q⟩ := h
    obtain ⟨uD, hD, kD⟩ := law3_D (a := a) (w := w) (base := base) (H0 := H) (E := E) M C__law_draw C2 C__law_at C__law_same hr
    obtain ⟨uC, hC, kC⟩ := law3_C (a := a) C__law_many hr hD
    obtain ⟨uB, hB, kB⟩ := law3_B (a := a) C__law_many hr hC
    refine ⟨_, PSs.nox (pss_cons (ps_set (i := 1) sc_law.nd rfl (.inr rfl) (pe_callC C__law_pool (hr.mono (by first | decide | exact Nat.le_refl _ | omega)) (by rfl) (pa_cons (pv 0) (pa_cons pe_int pa_nil))))
  (pss_cons (ps_set (i := 2) sc_law.nd rfl (.inl rfl) (pe_lst (pa_cons pe_str (pa_cons pe_str (pa_cons pe_str (pa_cons pe_str (pa_cons pe_str (pa_cons pe_str (pa_cons pe_str (pa_cons pe_str pa_nil))))))))))
  (pss_cons (ps_set (i := 3) sc_law.nd rfl (.inl rfl) (pe_lst (pa_cons pe_str (pa_cons pe_str (pa_cons pe_str (pa_cons pe_str (pa_cons pe_str (pa_cons pe_str pa_nil))))))))
  (pss_cons (ps_set (i := 4) sc_law.nd rfl (.inl rfl) (pe_lst (pa_cons pe_str (pa_cons pe_str (pa_cons pe_str (pa_cons pe_str (pa_cons pe_str (pa_cons pe_str (pa_cons pe_str pa_nil)))))))))
  (pss_cons (ps_set (i := 5) sc_law.nd rfl (.inr rfl) (pe_lst (pa_cons pe_str (pa_cons pe_str (pa_cons pe_str (pa_cons pe_str (pa_cons pe_str (pa_cons pe_str (pa_cons pe_str pa_nil)))))))))
  (pss_cons (ps_set (i := 6) sc_law.nd rfl (.inl rfl) (pe_op op_add pe_int (pe_callC C__law_draw (hr.mono (by first | decide | exact Nat.le_refl _ | omega)) (by rfl) (pa_cons (pv 1) (pa_cons pe_int pa_nil)))))
  (pss_cons (ps_if (pt_not (pt_val (pe_callC C__law_many (hr.mono (by first | decide | exact Nat.le_refl _ | omega)) (by rfl) (pa_cons (pe_lst pa_nil) (pa_cons (pe_lc (own := [("name", 7)]) (g := gName 7) (by rfl) sc_law.nd (pi_list (pe_slice (show SlR _ (rSlL K) from sl_list) (pv 4) po_none (po_some (pv 6)))) (blkOk_by (own := [("name", 7)]) (N := N_law) (sc := defScope s_law) (by decide +kernel)) (fun _ _ _ _ _ => pg_name (i := 7) sc_law.nd rfl (.inl rfl)) (fun _ _ _ _ _ => pts_nil) (fun _ _ _ _ _ => (pe_lst (pa_cons pe_str (pa_cons (pv 7) pa_nil))))) (pa_cons pe_int (pa_cons (pe_lst (pa_cons pe_str (pa_cons pe_str pa_nil))) pa_nil))))))) (pss_one (ps_ret pe_bl)) pss_nil)
  (pss_cons (ps_if (pt_not (pt_val (pe_callC C__law_many (hr.mono (by first | decide | exact Nat.le_refl _ | omega)) (by rfl) (pa_cons (pe_lst (pa_cons pe_str (pa_cons pe_str pa_nil))) (pa_cons (pe_lc (own := [("name", 7)]) (g := gName 7) (by rfl) sc_law.nd (pi_list (pe_slice (show SlR _ (rSlL K) from sl_list) (pv 4) po_none (po_some (pv 6)))) (blkOk_by (own := [("name", 7)]) (N := N_law) (sc := defScope s_law) (by decide +kernel)) (fun _ _ _ _ _ => pg_name (i := 7) sc_law.nd rfl (.inl rfl)) (fun _ _ _ _ _ => pts_nil) (fun _ _ _ _ _ => (pe_lst (pa_cons pe_str (pa_cons (pv 7) pa_nil))))) (pa_cons pe_int (pa_cons (pe_lst (pa_cons pe_str (pa_cons pe_str (pa_cons pe_str (pa_cons pe_str (pa_cons pe_str (pa_cons pe_str (pa_cons pe_str pa_nil)))))))) pa_nil))))))) (pss_one (ps_ret pe_bl)) pss_nil)
  (pss_cons (ps_set (i := 8) sc_law.nd rfl (.inl rfl) (pe_op op_cat (pe_lc (own := [("name", 7)]) (g := gName 7) (by rfl) sc_law.nd (pi_list (pe_lst (pa_cons pe_str (pa_cons pe_str (pa_cons pe_str (pa_cons pe_str pa_nil)))))) (blkOk_by (own := [("name", 7)]) (N := N_law) (sc := defScope s_law) (by decide +kernel)) (fun _ _ _ _ _ => pg_name (i := 7) sc_law.nd rfl (.inl rfl)) (fun _ _ _ _ _ => pts_nil) (fun _ _ _ _ _ => (pe_lst (pa_cons pe_str (pa_cons (pv 7) (pa_cons pe_str pa_nil)))))) (pe_lst (pa_cons (pe_lst (pa_cons pe_str (pa_cons pe_str (pa_cons pe_str pa_nil)))) pa_nil))))
  (pss_cons (ps_if (pt_not (pt_val (pe_callC C__law_many (hr.mono (by first | decide | exact Nat.le_refl _ | omega)) (by rfl) (pa_cons (pe_op op_cat (pv 2) (pe_lst (pa_cons pe_str (pa_cons pe_str pa_nil)))) (pa_cons (pe_slice (show SlR _ (rSlL K) from sl_list) (pv 8) po_none (po_some (pv 6))) (pa_cons pe_int (pa_cons (pe_lst (pa_cons pe_str (pa_cons pe_str pa_nil))) pa_nil))))))) (pss_one (ps_ret pe_bl)) pss_nil)
  (pss_cons (ps_set (i := 9) sc_law.nd rfl (.inl rfl) (pe_lst (pa_cons (pe_lst (pa_cons pe_str (pa_cons pe_str (pa_cons pe_str pa_nil)))) (pa_cons (pe_lst (pa_cons pe_str (pa_cons pe_str (pa_cons pe_str pa_nil)))) (pa_cons (pe_lst (pa_cons pe_str (pa_cons pe_str (pa_cons pe_str pa_nil)))) (pa_cons (pe_lst (pa_cons pe_str (pa_cons pe_str (pa_cons pe_str pa_nil)))) pa_nil))))))
  (pss_cons (ps_if (pt_not (pt_val (pe_callC C__law_many (hr.mono (by first | decide | exact Nat.le_refl _ | omega)) (by rfl) (pa_cons (pe_op op_cat (pv 2) (pv 3)) (pa_cons (pe_slice (show SlR _ (rSlL K) from sl_list) (pv 9) po_none (po_some (pv 6))) (pa_cons pe_int (pa_cons (pv 5) pa_nil))))))) (pss_one (ps_ret pe_bl)) pss_nil)
  (pss_cons (ps_setLc (i := 10) (own := [("name", 7)]) (g := gName 7) (by rfl) sc_law.nd rfl rfl (sw_true rfl rfl rfl (by decide +kernel)) (pi_list (pe_slice (show SlR _ (rSlL K) from sl_list) (pv 4) po_none (po_some (pv 6)))) (blkOk_by (own := [("name", 7)]) (N := N_law) (sc := defScope s_law) (by decide +kernel)) (fun _ _ _ _ _ => pg_name (i := 7) sc_law.nd rfl (.inl rfl)) (fun _ _ _ _ _ => pts_nil) (fun _ _ _ _ _ => (pe_lst (pa_cons pe_str (pa_cons (pv 7) (pa_cons pe_str (pa_cons pe_str (pa_cons pe_str (pa_cons pe_str pa_nil)))))))))
  (pss_cons (ps_if (pt_not (pt_val (pe_callC C__law_many (hr.mono (by first | decide | exact Nat.le_refl _ | omega)) (by rfl) (pa_cons (pe_op op_cat (pv 2) (pv 3)) (pa_cons (pv 10) (pa_cons pe_int (pa_cons (pv 5) pa_nil))))))) (pss_one (ps_ret pe_bl)) pss_nil)
  (Evl.pss_cut (ps_set (i := 11) sc_law.nd rfl (.inl rfl) (pe_op op_cat (pe_op op_cat (pv 2) (pv 3)) (pe_lst (pa_cons pe_str (pa_cons pe_str (pa_cons pe_str (pa_cons pe_str (pa_cons pe_str (pa_cons pe_str pa_nil)))))))))
  hB))))))))))))))), ?_⟩
    have hsz := sizeLine_eq
    refine ⟨_, rfl, a, ns, 0, rfl, hs, fun P0 H1 hP s1 pool => ?_⟩
    refine ⟨(by show 8 ≤ sizeLine; omega), fun G hG => ?_⟩
    refine ⟨(by show 6 ≤ sizeLine; omega), fun M1 hM => ?_⟩
    refine ⟨(by show 7 ≤ sizeLine; omega), fun N1 hN => ?_⟩
    refine ⟨(by show 7 ≤ sizeLine; omega), fun L1 hL => ?_⟩
    have eG4 : upd H1 G (.lst (gW.map V.str)) G = some (.lst (gW.map V.str)) := upd_same
    have eM4 : upd (upd H1 G (.lst (gW.map V.str))) M1 (.lst (mW.map V.str)) M1 = some (.lst (mW.map V.str)) := upd_same
    have eN4 : upd (upd (upd H1 G (.lst (gW.map V.str))) M1 (.lst (mW.map V.str))) N1 (.lst (nW.map V.str)) N1 = some (.lst (nW.map V.str)) := upd_same
    have s4 : Same H1 (upd (upd (upd (upd H1 G (.lst (gW.map V.str))) M1 (.lst (mW.map V.str))) N1 (.lst (nW.map V.str))) L1 (.lst (oW.map V.str))) := (((same_upd hG).trans (same_upd hM)).trans (same_upd hN)).trans (same_upd hL)
    have eG : (upd (upd (upd (upd H1 G (.lst (gW.map V.str))) M1 (.lst (mW.map V.str))) N1 (.lst (nW.map V.str))) L1 (.lst (oW.map V.str))) G = some (.lst (gW.map V.str)) := ((same_upd hM).trans ((same_upd hN).trans (same_upd hL))) _ _ eG4
    have eM : (upd (upd (upd (upd H1 G (.lst (gW.map V.str))) M1 (.lst (mW.map V.str))) N1 (.lst (nW.map V.str))) L1 (.lst (oW.map V.str))) M1 = some (.lst (mW.map V.str)) := ((same_upd hN).trans (same_upd hL)) _ _ eM4
    have eN : (upd (upd (upd (upd H1 G (.lst (gW.map V.str))) M1 (.lst (mW.map V.str))) N1 (.lst (nW.map V.str))) L1 (.lst (oW.map V.str))) N1 = some (.lst (nW.map V.str)) := (same_upd hL) _ _ eN4
    have eL : (upd (upd (upd (upd H1 G (.lst (gW.map V.str))) M1 (.lst (mW.map V.str))) N1 (.lst (nW.map V.str))) L1 (.lst (oW.map V.str))) L1 = some (.lst (oW.map V.str)) := upd_same
    have pool4 := pool.same s4
    obtain ⟨o0, hP1⟩ : ∃ o, H1 P0 = some o := by
      obtain ⟨_, _, _, _, _, _, z⟩ := pool.there
      exact ⟨_, z⟩
    have nG : G ≠ P0 := fun z => by rw [z, hP1] at hG; cases hG
    have nM : M1 ≠ P0 := fun z => by
      rw [z] at hM
      rw [same_upd hG _ _ hP1] at hM
      cases hM
    have nN : N1 ≠ P0 := fun z => by
      rw [z] at hN
      rw [((same_upd hG).trans (same_upd hM)) _ _ hP1] at hN
      cases hN
    have nL : L1 ≠ P0 := fun z => by
      rw [z] at hL
      rw [((same_upd hG).trans ((same_upd hM).trans (same_upd hN))) _ _ hP1] at hL
      cases hL
    refine ⟨_, rfl, P0, 5, rfl, by decide, by decide, pool4, fun v o hv0 hv5 pool5 => ?_⟩
    refine ⟨_, _, rfl, rfl, ?_⟩
    have eG5 := (upd_ne (o := o) nG).trans eG
    have eM5 := (upd_ne (o := o) nM).trans eM
    have eN5 := (upd_ne (o := o) nN).trans eN
    have eL5 := (upd_ne (o := o) nL).trans eL
    obtain ⟨k, hk⟩ : ∃ k : Nat, (2 + v).toNat = k := ⟨_, rfl⟩
    have hkv : (2 : Int) + v = ((k : Nat) : Int) := by omega
    clear eG eM eN eL eG4 eM4 eN4 pool4
    have hk2 : ∀ {p : Nat → Bool}, ([2, 3, 4, 5, 6].all p) = true → p k = true := fun h => by
      have z := five hv0 hv5 h
      rw [hk] at z
      exact z
    replace pool5 : Pool (upd (upd (upd (upd (upd H1 G (.lst (gW.map V.str))) M1 (.lst (mW.map V.str))) N1 (.lst (nW.map V.str))) L1 (.lst (oW.map V.str))) P0 o) P0 := pool5
    show gName 6 (.int (2 + v)) _ (upd (upd (upd (upd (upd H1 G (.lst (gW.map V.str))) M1 (.lst (mW.map V.str))) N1 (.lst (nW.map V.str))) L1 (.lst (oW.map V.str))) P0 o) _
    rw [hkv]
    generalize (upd (upd (upd (upd (upd H1 G (.lst (gW.map V.str))) M1 (.lst (mW.map V.str))) N1 (.lst (nW.map V.str))) L1 (.lst (oW.map V.str))) P0 o) = H5 at eG5 eM5 eN5 eL5 pool5
    -- goods
    have cut0 : (nW.take k).length ≤ 100 := by
      rw [List.length_take]
      show min k 7 ≤ 100
      omega
    have cut1 : (nW.take k).length ≤ 1000 := by omega
    refine ⟨(by show 0 ≤ sizeLine; omega), fun A1 hA1 => ?_⟩
    refine ⟨_, rfl, _, rfl, _, rfl, N1, _, rfl, .inl (.inl ((same_upd hA1) _ _ eN5)), fun S1 hS1 => ?_⟩
    rw [cut_take]
    have eS1 : upd (upd H5 A1 (.lst [])) S1 (.lst ((nW.take k).map V.str)) S1 = some (.lst ((nW.take k).map V.str)) := upd_same
    have sS1 : Same H5 (upd (upd H5 A1 (.lst [])) S1 (.lst ((nW.take k).map V.str))) := (same_upd hA1).trans (same_upd hS1)
    have eA1 : upd (upd H5 A1 (.lst [])) S1 (.lst ((nW.take k).map V.str)) A1 = some (.lst []) := (same_upd hS1) _ _ upd_same
    generalize upd (upd H5 A1 (.lst [])) S1 (.lst ((nW.take k).map V.str)) = H6 at eS1 sS1 eA1 ⊢
    refine ⟨S1, rfl, ⟨_, .inl (.inl eS1)⟩, fun D1 hD1 => ?_⟩
    refine lc_rows (K := K) (ss := nW.take k) (f := V.str) (g := fun n => [("good" : Str), n]) cut1 (.inl (.inl eS1)) hD1 (fun _ => rfl) (fun x H' Q' _ s' q' => ⟨_, rfl, (by show 2 ≤ sizeLine; omega), fun q hq => q' q _ hq (same_upd hq) upd_same⟩) (fun H7 as s7 e7 r7 => ?_)
    refine ⟨(by show 2 ≤ sizeLine; omega), fun R1 hR1 => ?_⟩
    dsimp only [tNil]
    obtain ⟨tk, gd⟩ := goodB_ok (hk2 t1)
    refine ⟨A1, D1, R1, [], (nW.take k).map fun n => [("good" : Str), n], 4, [("member" : Str), "ann"], rfl, .inl (.inl ((same_upd hR1) _ _ (s7 _ _ eA1))), (r7.same (same_upd hR1)).at_ ((same_upd hR1) _ _ e7), upd_same, by rw [List.length_map]; omega, tk, gd, fun H8 s8 => ⟨_, rfl, ifF rfl ?_⟩⟩
    have sT : Same H5 H8 := ((sS1.trans s7).trans (same_upd hR1)).trans s8
    replace eG5 := sT _ _ eG5
    replace eM5 := sT _ _ eM5
    replace eN5 := sT _ _ eN5
    replace eL5 := sT _ _ eL5
    replace pool5 := pool5.same sT
    clear sT s8 e7 r7 s7 eS1 sS1 eA1 hA1 hS1 hD1 hR1 tk gd as
    -- members
    refine ⟨(by show 2 ≤ sizeLine; omega), fun A1 hA1 => ?_⟩
    refine ⟨_, rfl, _, rfl, _, rfl, N1, _, rfl, .inl (.inl ((same_upd hA1) _ _ eN5)), fun S1 hS1 => ?_⟩
    rw [cut_take]
    have eS1 : upd (upd H8 A1 (.lst ([("good" : Str), "wood"].map V.str))) S1 (.lst ((nW.take k).map V.str)) S1 = some (.lst ((nW.take k).map V.str)) := upd_same
    have sS1 : Same H8 (upd (upd H8 A1 (.lst ([("good" : Str), "wood"].map V.str))) S1 (.lst ((nW.take k).map V.str))) := (same_upd hA1).trans (same_upd hS1)
    have eA1 : upd (upd H8 A1 (.lst ([("good" : Str), "wood"].map V.str))) S1 (.lst ((nW.take k).map V.str)) A1 = some (.lst ([("good" : Str), "wood"].map V.str)) := (same_upd hS1) _ _ upd_same
    refine ⟨S1, rfl, ⟨_, .inl (.inl eS1)⟩, fun D1 hD1 => ?_⟩
    refine lc_rows (K := K) (ss := nW.take k) (f := V.str) (g := fun n => [("member" : Str), n]) cut1 (.inl (.inl eS1)) hD1 (fun _ => rfl) (fun x H' Q' _ s' q' => ⟨_, rfl, (by show 2 ≤ sizeLine; omega), fun q hq => q' q _ hq (same_upd hq) upd_same⟩) (fun H9 as s7 e7 r7 => ?_)
    refine ⟨(by show 7 ≤ sizeLine; omega), fun R1 hR1 => ?_⟩
    dsimp only [tNil]
    obtain ⟨tk, gd⟩ := goodB_ok (hk2 t2)
    refine ⟨A1, D1, R1, [("good" : Str), "wood"], (nW.take k).map fun n => [("member" : Str), n], 5, oW, rfl, .inl (.inl ((same_upd hR1) _ _ (s7 _ _ eA1))), (r7.same (same_upd hR1)).at_ ((same_upd hR1) _ _ e7), upd_same, by rw [List.length_map]; omega, tk, gd, fun H10 s8 => ⟨_, rfl, ifF rfl ?_⟩⟩
    have sT : Same H8 H10 := ((sS1.trans s7).trans (same_upd hR1)).trans s8
    replace eG5 := sT _ _ eG5
    replace eM5 := sT _ _ eM5
    replace eN5 := sT _ _ eN5
    replace eL5 := sT _ _ eL5
    replace pool5 := pool5.same sT
    clear sT s8 e7 r7 s7 eS1 sS1 eA1 hA1 hS1 hD1 hR1 tk gd as
    -- held
    refine ⟨(by show 4 ≤ sizeLine; omega), fun W1 hW1 => ?_⟩
    have eW1 : upd H10 W1 (.lst ([("wood" : Str), "oats", "wool", "iron"].map V.str)) W1 = some (.lst ([("wood" : Str), "oats", "wool", "iron"].map V.str)) := upd_same
    refine ⟨W1, rfl, ⟨_, .inl (.inl eW1)⟩, fun D1 hD1 => ?_⟩
    refine lc_rows (K := K) (ss := [("wood" : Str), "oats", "wool", "iron"]) (f := V.str) (g := fun n => [("has" : Str), n, "1"]) (by decide) (.inl (.inl eW1)) hD1 (fun _ => rfl) (fun x H' Q' _ s' q' => ⟨_, rfl, (by show 3 ≤ sizeLine; omega), fun q hq => q' q _ hq (same_upd hq) upd_same⟩) (fun H11 as s7 e7 r7 => ?_)
    refine ⟨(by show 3 ≤ sizeLine; omega), fun B1 hB1 => ?_⟩
    refine ⟨(by show 1 ≤ sizeLine; omega), fun C1 hC1 => ?_⟩
    have nBD : B1 ≠ D1 := fun z => by rw [z, e7] at hB1; cases hB1
    have r8 := ((r7.same (same_upd (o := .lst ([("has" : Str), "wood", "1"].map V.str)) hB1)).snoc nBD upd_same).same (same_upd (o := .lst [.ref B1]) hC1)
    have e8 := (same_upd (o := .lst [.ref B1]) hC1) _ _ ((same_upd (o := .lst ([("has" : Str), "wood", "1"].map V.str)) hB1) _ _ e7)
    have la : as.length = 4 := r7.1
    refine ⟨D1, C1, _, _, rfl, rfl, e8, upd_same, by rw [List.length_map, la]; show 4 + 1 ≤ _; omega, fun E1 hE1 => ?_⟩
    have rE := r8.same (same_upd (o := .lst (as.map V.ref ++ [.ref B1])) hE1)
    have eE : upd (upd (upd H11 B1 (.lst ([("has" : Str), "wood", "1"].map V.str))) C1 (.lst [.ref B1])) E1 (.lst (as.map V.ref ++ [.ref B1])) E1 = some (.lst ((as ++ [B1]).map V.ref)) := by
      rw [upd_same, List.map_append]
      rfl
    have sT : Same H10 (upd (upd (upd H11 B1 (.lst ([("has" : Str), "wood", "1"].map V.str))) C1 (.lst [.ref B1])) E1 (.lst (as.map V.ref ++ [.ref B1]))) := ((((same_upd hW1).trans s7).trans (same_upd hB1)).trans (same_upd hC1)).trans (same_upd hE1)
    have rE2 : RowsOff (upd (upd (upd H11 B1 (.lst ([("has" : Str), "wood", "1"].map V.str))) C1 (.lst [.ref B1])) E1 (.lst (as.map V.ref ++ [.ref B1]))) D1 (as ++ [B1]) helW := rE
    clear rE r8 e8
    show gName 8 (.ref E1) _ (upd (upd (upd H11 B1 (.lst ([("has" : Str), "wood", "1"].map V.str))) C1 (.lst [.ref B1])) E1 (.lst (as.map V.ref ++ [.ref B1]))) _
    generalize as ++ [B1] = hl at eE rE2
    generalize upd (upd (upd H11 B1 (.lst ([("has" : Str), "wood", "1"].map V.str))) C1 (.lst [.ref B1])) E1 (.lst (as.map V.ref ++ [.ref B1])) = H12 at eE rE2 sT ⊢
    replace eG5 := sT _ _ eG5
    replace eM5 := sT _ _ eM5
    replace eN5 := sT _ _ eN5
    replace eL5 := sT _ _ eL5
    replace pool5 := pool5.same sT
    clear sT e7 r7 s7 hW1 eW1 hD1 hB1 hC1 hE1 nBD la
    -- goods + [member ann], held[:more]
    refine ⟨_, rfl, (by show 2 ≤ sizeLine; omega), fun B1 hB1 => ?_⟩
    refine ⟨G, B1, _, _, rfl, rfl, (same_upd hB1) _ _ eG5, upd_same, (by show 8 + 2 ≤ sizeLine; omega), fun A1 hA1 => ?_⟩
    have eA1 : upd (upd H12 B1 (.lst ([("member" : Str), "ann"].map V.str))) A1 (.lst (gW.map V.str ++ [("member" : Str), "ann"].map V.str)) A1 = some (.lst ((gW ++ [("member" : Str), "ann"]).map V.str)) := by
      rw [upd_same, List.map_append]
    have sA1 : Same H12 (upd (upd H12 B1 (.lst ([("member" : Str), "ann"].map V.str))) A1 (.lst (gW.map V.str ++ [("member" : Str), "ann"].map V.str))) := (same_upd hB1).trans (same_upd hA1)
    refine ⟨_, rfl, _, rfl, _, rfl, E1, _, rfl, .inl (.inl (sA1 _ _ eE)), fun S1 hS1 => ?_⟩
    rw [cut_take]
    refine ⟨(by show 2 ≤ sizeLine; omega), fun R1 hR1 => ?_⟩
    dsimp only [tNil]
    obtain ⟨tk, gd⟩ := goodB_ok (hk2 t3)
    have rS := (((rE2.same sA1).same (same_upd (o := .lst ((hl.take k).map V.ref)) hS1)).take k).same (same_upd (o := .lst ([("member" : Str), "bob"].map V.str)) hR1)
    have hl5 : (helW.take k).length ≤ 100 := by
      rw [List.length_take]
      show min k 5 ≤ 100
      omega
    refine ⟨A1, S1, R1, gW ++ [("member" : Str), "ann"], helW.take k, 4, [("member" : Str), "bob"], rfl, .inl (.inl ((same_upd hR1) _ _ ((same_upd hS1) _ _ eA1))), ⟨hl.take k, (same_upd hR1) _ _ upd_same, rS.1, fun i r hr => ?_⟩, upd_same, hl5, tk, gd, fun H13 s8 => ⟨_, rfl, ifF rfl ?_⟩⟩
    · obtain ⟨b, h1, _, h3⟩ := rS.2 i r hr
      exact ⟨b, h1, h3⟩
    have sT : Same H12 H13 := ((sA1.trans (same_upd hS1)).trans (same_upd hR1)).trans s8
    replace eG5 := sT _ _ eG5
    replace eM5 := sT _ _ eM5
    replace eN5 := sT _ _ eN5
    replace eL5 := sT _ _ eL5
    replace eE := sT _ _ eE
    replace rE2 := rE2.same sT
    replace pool5 := pool5.same sT
    clear sT s8 eA1 sA1 hA1 hB1 hS1 hR1 tk gd rS
    -- talks
    refine ⟨(by show 3 ≤ sizeLine; omega), fun B1 hB1 => ?_⟩
    refine ⟨(by show 3 ≤ sizeLine; omega), fun B2 hB2 => ?_⟩
    refine ⟨(by show 3 ≤ sizeLine; omega), fun B3 hB3 => ?_⟩
    refine ⟨(by show 3 ≤ sizeLine; omega), fun B4 hB4 => ?_⟩
    refine ⟨(by show 4 ≤ sizeLine; omega), fun T1 hT1 => ?_⟩
    have eB1 : (upd (upd (upd (upd H13 B1 (.lst ([("talk" : Str), "ann", "bob"].map V.str))) B2 (.lst ([("talk" : Str), "bob", "cat"].map V.str))) B3 (.lst ([("talk" : Str), "ann", "cat"].map V.str))) B4 (.lst ([("talk" : Str), "ann", "bob"].map V.str))) B1 = some (.lst ([("talk" : Str), "ann", "bob"].map V.str)) := (same_upd (o := .lst ([("talk" : Str), "ann", "bob"].map V.str)) hB4) _ _ ((same_upd (o := .lst ([("talk" : Str), "ann", "cat"].map V.str)) hB3) _ _ ((same_upd (o := .lst ([("talk" : Str), "bob", "cat"].map V.str)) hB2) _ _ upd_same))
    have eB2 : (upd (upd (upd (upd H13 B1 (.lst ([("talk" : Str), "ann", "bob"].map V.str))) B2 (.lst ([("talk" : Str), "bob", "cat"].map V.str))) B3 (.lst ([("talk" : Str), "ann", "cat"].map V.str))) B4 (.lst ([("talk" : Str), "ann", "bob"].map V.str))) B2 = some (.lst ([("talk" : Str), "bob", "cat"].map V.str)) := (same_upd (o := .lst ([("talk" : Str), "ann", "bob"].map V.str)) hB4) _ _ ((same_upd (o := .lst ([("talk" : Str), "ann", "cat"].map V.str)) hB3) _ _ upd_same)
    have eB3 : (upd (upd (upd (upd H13 B1 (.lst ([("talk" : Str), "ann", "bob"].map V.str))) B2 (.lst ([("talk" : Str), "bob", "cat"].map V.str))) B3 (.lst ([("talk" : Str), "ann", "cat"].map V.str))) B4 (.lst ([("talk" : Str), "ann", "bob"].map V.str))) B3 = some (.lst ([("talk" : Str), "ann", "cat"].map V.str)) := (same_upd (o := .lst ([("talk" : Str), "ann", "bob"].map V.str)) hB4) _ _ upd_same
    have eB4 : (upd (upd (upd (upd H13 B1 (.lst ([("talk" : Str), "ann", "bob"].map V.str))) B2 (.lst ([("talk" : Str), "bob", "cat"].map V.str))) B3 (.lst ([("talk" : Str), "ann", "cat"].map V.str))) B4 (.lst ([("talk" : Str), "ann", "bob"].map V.str))) B4 = some (.lst ([("talk" : Str), "ann", "bob"].map V.str)) := upd_same
    have sB : Same H13 (upd (upd (upd (upd H13 B1 (.lst ([("talk" : Str), "ann", "bob"].map V.str))) B2 (.lst ([("talk" : Str), "bob", "cat"].map V.str))) B3 (.lst ([("talk" : Str), "ann", "cat"].map V.str))) B4 (.lst ([("talk" : Str), "ann", "bob"].map V.str))) := ((((same_upd hB1).trans (same_upd hB2)).trans (same_upd hB3)).trans (same_upd hB4))
    replace hT1 : (upd (upd (upd (upd H13 B1 (.lst ([("talk" : Str), "ann", "bob"].map V.str))) B2 (.lst ([("talk" : Str), "bob", "cat"].map V.str))) B3 (.lst ([("talk" : Str), "ann", "cat"].map V.str))) B4 (.lst ([("talk" : Str), "ann", "bob"].map V.str))) T1 = none := hT1
    show gName 9 (.ref T1) _ (upd (upd (upd (upd (upd H13 B1 (.lst ([("talk" : Str), "ann", "bob"].map V.str))) B2 (.lst ([("talk" : Str), "bob", "cat"].map V.str))) B3 (.lst ([("talk" : Str), "ann", "cat"].map V.str))) B4 (.lst ([("talk" : Str), "ann", "bob"].map V.str))) T1 (.lst ([B1, B2, B3, B4].map V.ref))) _
    generalize (upd (upd (upd (upd H13 B1 (.lst ([("talk" : Str), "ann", "bob"].map V.str))) B2 (.lst ([("talk" : Str), "bob", "cat"].map V.str))) B3 (.lst ([("talk" : Str), "ann", "cat"].map V.str))) B4 (.lst ([("talk" : Str), "ann", "bob"].map V.str))) = HB at eB1 eB2 eB3 eB4 sB hT1 ⊢
    have nB1 : B1 ≠ T1 := ne_of_none eB1 hT1
    have nB2 : B2 ≠ T1 := ne_of_none eB2 hT1
    have nB3 : B3 ≠ T1 := ne_of_none eB3 hT1
    have nB4 : B4 ≠ T1 := ne_of_none eB4 hT1
    have rT : RowsOff (upd HB T1 (.lst ([B1, B2, B3, B4].map V.ref))) T1 [B1, B2, B3, B4] talW := ((((((((rows_nil : RowsOff _ T1 _ _).snoc nB1 ((same_upd (o := .lst ([B1, B2, B3, B4].map V.ref)) hT1) _ _ eB1)) : RowsOff _ T1 _ _).snoc nB2 ((same_upd (o := .lst ([B1, B2, B3, B4].map V.ref)) hT1) _ _ eB2)) : RowsOff _ T1 _ _).snoc nB3 ((same_upd (o := .lst ([B1, B2, B3, B4].map V.ref)) hT1) _ _ eB3)) : RowsOff _ T1 _ _).snoc nB4 ((same_upd (o := .lst ([B1, B2, B3, B4].map V.ref)) hT1) _ _ eB4))
    have eT : upd HB T1 (.lst ([B1, B2, B3, B4].map V.ref)) T1 = some (.lst ([B1, B2, B3, B4].map V.ref)) := upd_same
    have sT : Same H13 (upd HB T1 (.lst ([B1, B2, B3, B4].map V.ref))) := sB.trans (same_upd hT1)
    replace eG5 := sT _ _ eG5
    replace eM5 := sT _ _ eM5
    replace eN5 := sT _ _ eN5
    replace eL5 := sT _ _ eL5
    replace eE := sT _ _ eE
    replace rE2 := rE2.same sT
    replace pool5 := pool5.same sT
    generalize [B1, B2, B3, B4] = tl1 at rT eT eG5 eM5 eN5 eL5 eE rE2 pool5 sT ⊢
    generalize upd HB T1 (.lst (tl1.map V.ref)) = H14 at rT eT eG5 eM5 eN5 eL5 eE rE2 pool5 sT ⊢
    clear sT sB hT1 eB1 hB1 nB1 eB2 hB2 nB2 eB3 hB3 nB3 eB4 hB4 nB4
    refine ⟨_, rfl, _, rfl, G, M1, _, _, rfl, rfl, eG5, eM5, (by show 8 + 6 ≤ sizeLine; omega), fun A1 hA1 => ?_⟩
    have eA1 : upd H14 A1 (.lst (gW.map V.str ++ mW.map V.str)) A1 = some (.lst ((gW ++ mW).map V.str)) := by
      rw [upd_same, List.map_append]
    have sA1 : Same H14 (upd H14 A1 (.lst (gW.map V.str ++ mW.map V.str))) := same_upd hA1
    refine ⟨_, rfl, _, rfl, _, rfl, T1, _, rfl, .inl (.inl (sA1 _ _ eT)), fun S1 hS1 => ?_⟩
    rw [cut_take]
    refine ⟨_, rfl, ?_⟩
    dsimp only [tNil]
    obtain ⟨tk, gd⟩ := goodB_ok (hk2 t4)
    have rS := ((rT.same sA1).same (same_upd (o := .lst ((tl1.take k).map V.ref)) hS1)).take k
    have tl5 : (talW.take k).length ≤ 100 := by
      rw [List.length_take]
      show min k 4 ≤ 100
      omega
    refine ⟨A1, S1, L1, gW ++ mW, talW.take k, 3, oW, rfl, .inl (.inl ((same_upd hS1) _ _ eA1)), ⟨tl1.take k, upd_same, rS.1, fun i r hr => ?_⟩, (same_upd hS1) _ _ (sA1 _ _ eL5), tl5, tk, gd, fun H15 s8 => ⟨_, rfl, ifF rfl ?_⟩⟩
    · obtain ⟨b, h1, _, h3⟩ := rS.2 i r hr
      exact ⟨b, h1, h3⟩
    have sT : Same H14 H15 := (sA1.trans (same_upd hS1)).trans s8
    replace eG5 := sT _ _ eG5
    replace eM5 := sT _ _ eM5
    replace eN5 := sT _ _ eN5
    replace eL5 := sT _ _ eL5
    replace eE := sT _ _ eE
    replace rE2 := rE2.same sT
    replace pool5 := pool5.same sT
    clear sT s8 eA1 sA1 hA1 hS1 tk gd rS rT eT
    -- recipes
    refine ⟨_, rfl, _, rfl, _, rfl, N1, _, rfl, .inl (.inl eN5), fun S1 hS1 => ?_⟩
    rw [cut_take]
    have eS1 : upd H15 S1 (.lst ((nW.take k).map V.str)) S1 = some (.lst ((nW.take k).map V.str)) := upd_same
    have sS1 : Same H15 (upd H15 S1 (.lst ((nW.take k).map V.str))) := same_upd hS1
    refine ⟨S1, rfl, ⟨_, .inl (.inl eS1)⟩, fun D2 hD1 => ?_⟩
    refine lc_rows (K := K) (ss := nW.take k) (f := V.str) (g := fun n => [("recipe" : Str), n, "cost", "0", "times", "4"]) cut1 (.inl (.inl eS1)) hD1 (fun _ => rfl) (fun x H' Q' _ s' q' => ⟨_, rfl, (by show 6 ≤ sizeLine; omega), fun q hq => q' q _ hq (same_upd hq) upd_same⟩) (fun H16 as s7 e7 r7 => ?_)
    have sT : Same H15 H16 := sS1.trans s7
    replace eG5 := sT _ _ eG5
    replace eM5 := sT _ _ eM5
    replace eN5 := sT _ _ eN5
    replace eL5 := sT _ _ eL5
    replace eE := sT _ _ eE
    replace rE2 := rE2.same sT
    replace pool5 := pool5.same sT
    clear sT eS1 sS1 hS1 hD1 s7
    refine ⟨_, rfl, _, rfl, G, M1, _, _, rfl, rfl, eG5, eM5, (by show 8 + 6 ≤ sizeLine; omega), fun A1 hA1 => ?_⟩
    have eA1 : upd H16 A1 (.lst (gW.map V.str ++ mW.map V.str)) A1 = some (.lst ((gW ++ mW).map V.str)) := by
      rw [upd_same, List.map_append]
    have sA1 : Same H16 (upd H16 A1 (.lst (gW.map V.str ++ mW.map V.str))) := same_upd hA1
    refine ⟨_, rfl, _, rfl, ?_⟩
    dsimp only [tNil]
    obtain ⟨tk, gd⟩ := goodB_ok (hk2 t5)
    refine ⟨A1, D2, L1, gW ++ mW, (nW.take k).map fun n => [("recipe" : Str), n, "cost", "0", "times", "4"], 3, oW, rfl, .inl (.inl eA1), (r7.same sA1).at_ (sA1 _ _ e7), sA1 _ _ eL5, by rw [List.length_map]; omega, tk, gd, fun H17 s8 => ⟨_, rfl, ifF rfl ?_⟩⟩
    have sT : Same H16 H17 := sA1.trans s8
    replace eG5 := sT _ _ eG5
    replace eM5 := sT _ _ eM5
    replace eN5 := sT _ _ eN5
    replace eL5 := sT _ _ eL5
    replace eE := sT _ _ eE
    replace rE2 := rE2.same sT
    replace pool5 := pool5.same sT
    clear sT s8 eA1 sA1 hA1 tk gd e7 r7 as
    -- head
    refine ⟨MdAt a, ?_, fun _ _ h1 => kB _ _ _ h1 fun _ _ h2 => kC _ _ _ h2 fun _ _ h3 => kD _ _ _ h3 q⟩
    refine ⟨_, rfl, _, rfl, G, M1, _, _, rfl, rfl, eG5, eM5, (by show 8 + 6 ≤ sizeLine; omega), fun A1 hA1 => ?_⟩
    refine ⟨(by show 6 ≤ sizeLine; omega), fun B1 hB1 => ?_⟩
    refine ⟨A1, B1, _, _, rfl, rfl, (same_upd hB1) _ _ upd_same, upd_same, (by show 14 + 6 ≤ sizeLine; omega), fun X1 hX1 => ?_⟩
    have eX : upd (upd (upd H17 A1 (.lst (gW.map V.str ++ mW.map V.str))) B1 (.lst ([("recipe" : Str), "r", "cost", "9999", "times", "1"].map V.str))) X1 (.lst ((gW.map V.str ++ mW.map V.str) ++ [("recipe" : Str), "r", "cost", "9999", "times", "1"].map V.str)) X1 = some (.lst (headW.map V.str)) := by
      rw [upd_same, ← List.map_append, ← List.map_append]
      rfl
    have sT : Same H17 (upd (upd (upd H17 A1 (.lst (gW.map V.str ++ mW.map V.str))) B1 (.lst ([("recipe" : Str), "r", "cost", "9999", "times", "1"].map V.str))) X1 (.lst ((gW.map V.str ++ mW.map V.str) ++ [("recipe" : Str), "r", "cost", "9999", "times", "1"].map V.str))) := ((same_upd hA1).trans (same_upd hB1)).trans (same_upd hX1)
    replace eG5 := sT _ _ eG5
    replace eM5 := sT _ _ eM5
    replace eN5 := sT _ _ eN5
    replace eL5 := sT _ _ eL5
    replace eE := sT _ _ eE
    replace rE2 := rE2.same sT
    replace pool5 := pool5.same sT
    show gName 11 (.ref X1) _ (upd (upd (upd H17 A1 (.lst (gW.map V.str ++ mW.map V.str))) B1 (.lst ([("recipe" : Str), "r", "cost", "9999", "times", "1"].map V.str))) X1 (.lst ((gW.map V.str ++ mW.map V.str) ++ [("recipe" : Str), "r", "cost", "9999", "times", "1"].map V.str))) _
    generalize upd (upd (upd H17 A1 (.lst (gW.map V.str ++ mW.map V.str))) B1 (.lst ([("recipe" : Str), "r", "cost", "9999", "times", "1"].map V.str))) X1 (.lst ((gW.map V.str ++ mW.map V.str) ++ [("recipe" : Str), "r", "cost", "9999", "times", "1"].map V.str)) = H18 at eX sT eG5 eM5 eN5 eL5 eE rE2 pool5 ⊢
    exact ⟨P0, G, M1, N1, L1, E1, D1, T1, D2, X1, k, hl, _, _, _, _, _, _, _, _, _, _, _, rfl, ⟨by omega, by omega, eG5, eM5, eN5, eL5, eE, rE2, eX, pool5⟩⟩
end

def pBt : Nat → Pos
  | 0 => ⟨11, 17, 11, 21⟩
  | 1 => ⟨11, 23, 11, 25⟩
  | 2 => ⟨12, 8, 12, 13⟩
  | 3 => ⟨12, 8, 12, 15⟩
  | 4 => ⟨12, 8, 12, 24⟩
  | 5 => ⟨12, 27, 12, 66⟩
  | 6 => ⟨12, 67, 12, 69⟩
  | 7 => ⟨12, 66, 12, 70⟩
  | 8 => ⟨12, 25, 12, 71⟩
  | 9 => ⟨12, 8, 12, 72⟩
  | 10 => ⟨12, 8, 12, 72⟩
  | 11 => ⟨13, 8, 13, 12⟩
  | 12 => ⟨13, 8, 13, 15⟩
  | 13 => ⟨13, 18, 13, 20⟩
  | 14 => ⟨13, 8, 13, 20⟩
  | _ => ⟨0, 0, 0, 0⟩
def msgBt : Str := "the text writes no house, seen at word "

abbrev BtV : Type := Option (Str × Str × Arguments × FuncBody × Scope × Addr × Value × Value × Addr)
def obsBt (K : PySem.W.Frag) : BtV := match K.lookup (He.ma K (He.ga K "BadText") "__init__") with
  | some ⟨_, _, .func fd, _⟩ => some (fd.name, fd.qualname, fd.params, fd.body, fd.scope, fd.globals, fd.defaults, fd.kwdefaults, fd.builtins)
  | _ => none
def valBt : BtV := some ("__init__", "BadText.__init__", PySem.BtX.tA pBt, .stmts (PySem.BtX.tB msgBt pBt), PySem.BtX.tS, mainGlobals, .none, .none, builtinsNs)
def closBt (K : PySem.W.Frag) : Bool := match K.lookup (He.ma K (He.ga K "BadText") "__init__") with
  | some ⟨_, _, .func fd, _⟩ => (match fd.closure with
    | [(x, cc)] => decide (x = "__class__") && (match K.lookup cc with
      | some ⟨_, _, .cell (some (.ref C)), _⟩ => decide (C = He.ga K "BadText")
      | _ => false)
    | _ => false)
  | _ => false
def codBt (K : PySem.W.Frag) : Bool := match K.lookup (He.ma K (He.ga K "BadText") "__init__") with
  | some ⟨_, _, .func fd, _⟩ => PySem.W.codeIn K fd.code "BadText.__init__" && (match fd.code with
    | .ref a => (match K.lookup a with
      | some ⟨_, _, .fields vs, _⟩ => (match (vs.toList[2]? : Option Value) with
        | some (Value.str f _) => decide ((PySem.Challenge.pw_nogroupleaves_k03_bounds_of_houses.main.file : Str) = f)
        | _ => false)
      | _ => false)
    | _ => false)
  | _ => false
def clsBt (K : PySem.W.Frag) : Bool := match K.lookup (He.ga K "BadText") with
  | some ⟨.type "type", _, .cls cd, sl⟩ => (match cd.mro, sl.toList with
    | .ref C' :: bm, [_, _, _, _, some (.builtin n), _] => decide (C' = He.ga K "BadText") && (decide (n = "ValueError.__new__") && (PySem.HandSPX.refsVE bm && (cd.hasDict && (!cd.hasDel && (match PySem.W.alongIn K "__init__" bm with
      | some (some v) => decide (v = .builtin "ValueError.__init__")
      | _ => false)))))
    | _, _ => false)
  | _ => false
def restBt (K : PySem.W.Frag) : Bool := He.eqO (PySem.W.findIn K (.ref (He.ga K "BadText")) "__init__") (some (some (.ref (He.ma K (He.ga K "BadText") "__init__")))) && (He.eqO (PySem.W.findIn K (.ref (He.ga K "BadText")) "__setattr__") (some (some (.builtin "object.__setattr__"))) && (He.eqO (PySem.W.findIn K (.ref (He.ga K "BadText")) "__getattribute__") (some (some (.builtin "BaseException.__getattribute__"))) &&
  (He.eqO (PySem.W.findIn K (.ref (He.ga K "BadText")) "__getattr__") (some none) && (He.eqO (PySem.W.findIn K (.ref (He.ga K "BadText")) "at") (some none) && (decide (PySem.W.typeIn K (.ref (He.ma K (He.ga K "BadText") "__init__")) = some (.type "function")) &&
  (PySem.W.keepIn K (.ref (He.ga K "BadText")) && (decide (PySem.W.subIn K (.ref (He.ga K "BadText")) (.type "BaseException") = some true) && (decide (PySem.W.subIn K (.ref (He.ga K "BadText")) (.type "ValueError") = some true) && (decide (PySem.W.mroIn K (He.ga K "BadText") (.ref (He.ga K "BadText")) = some true) &&
  (decide (PySem.W.typeIn K (.ref (He.ga K "BadText")) = some (.type "type")) && (PySem.W.hasDictIn K (He.ga K "BadText") && (decide (PySem.W.exmOne K (.ref (He.ga K "BadText")) (.ref (He.ga K "BadText")) = some true) && He.eqO (PySem.W.nsIn K cStatics "thirdparty.any") (some none)))))))))))))
theorem bt_of {K : PySem.W.Frag} {h : Heap} {mg : Str → Option Value} (X : K.In h) (G : h.Ns mainGlobals mg) (gB : mg "BadText" = some (.ref (He.ga K "BadText"))) (gS : mg "super" = none) (c1 : obsBt K = valBt) (c2 : closBt K = true) (c3 : codBt K = true) (c4 : clsBt K = true) (c5 : restBt K = true) :
    PySem.BtX.BtTxt PySem.Challenge.pw_nogroupleaves_k03_bounds_of_houses K mg "BadText" "BadText.__init__" (He.ga K "BadText") (He.ma K (He.ga K "BadText") "__init__") := by
  unfold restBt at c5
  obtain ⟨r0, c5⟩ := He.ba c5
  obtain ⟨r1, c5⟩ := He.ba c5
  obtain ⟨r2, c5⟩ := He.ba c5
  obtain ⟨r3, c5⟩ := He.ba c5
  obtain ⟨r4, c5⟩ := He.ba c5
  obtain ⟨r5, c5⟩ := He.ba c5
  obtain ⟨r6, c5⟩ := He.ba c5
  obtain ⟨r7, c5⟩ := He.ba c5
  obtain ⟨r8, c5⟩ := He.ba c5
  obtain ⟨r9, c5⟩ := He.ba c5
  obtain ⟨r10, c5⟩ := He.ba c5
  obtain ⟨r11, c5⟩ := He.ba c5
  obtain ⟨r12, r13⟩ := He.ba c5
  refine { gC := gB, cls := ?_, sa := He.eqO_ok r1, ga := He.eqO_ok r2, gg := He.eqO_ok r3, noN := He.eqO_ok r4, iC := He.eqO_ok r0, tC := of_decide_eq_true r5, kC := r6, exC := of_decide_eq_true r7, veC := of_decide_eq_true r8, seC := of_decide_eq_true r9, tyC := of_decide_eq_true r10, hdC := r11, te := of_decide_eq_true r12, opq := He.eqO_ok r13, sup := gS, top := by rfl, fn := ?_ }
  · unfold clsBt at c4
    cases e : K.lookup (He.ga K "BadText") with
    | none =>
      rw [e] at c4
      cases c4
    | some o =>
      rw [e] at c4
      obtain ⟨oc, od, dt, osl⟩ := o
      split at c4
      · rename_i x1 x2 cd sl ee
        cases ee
        split at c4
        · rename_i C' bm k0 k1 k2 k3 nn k5 hm hs
          obtain ⟨d1, c4⟩ := He.ba c4
          obtain ⟨d2, c4⟩ := He.ba c4
          obtain ⟨d3, c4⟩ := He.ba c4
          obtain ⟨d4, c4⟩ := He.ba c4
          obtain ⟨d5, c4⟩ := He.ba c4
          have along : PySem.W.alongIn K "__init__" bm = some (some (.builtin "ValueError.__init__")) := by
            cases e1 : PySem.W.alongIn K "__init__" bm with
            | none =>
              rw [e1] at c4
              cases c4
            | some v1 =>
              rw [e1] at c4
              cases v1 with
              | none => cases c4
              | some v2 =>
                have z : v2 = .builtin "ValueError.__init__" := of_decide_eq_true c4
                rw [z]
          have d1' : C' = He.ga K "BadText" := of_decide_eq_true d1
          have d2' : nn = "ValueError.__new__" := of_decide_eq_true d2
          obtain ⟨nm, bs, mro, ns, qn, hd, sn, sb, ab, col, del⟩ := cd
          obtain ⟨l⟩ := osl
          dsimp only at hm hs d4 d5
          have hs2 : l = [k0, k1, k2, k3, some (.builtin nn), k5] := hs
          have d5' : del = false := by
            cases del with
            | false => rfl
            | true => cases d5
          subst hm hs2 d4 d5' d1' d2'
          exact ⟨nm, qn, ns, bs, bm, sn, sb, ab, col, _, k0, k1, k2, k3, k5, rfl, d3, along⟩
        · cases c4
      · cases c4
  · unfold obsBt at c1
    unfold closBt at c2
    unfold codBt at c3
    cases e : K.lookup (He.ma K (He.ga K "BadText") "__init__") with
    | none =>
      rw [e] at c1
      cases c1
    | some o =>
      rw [e] at c1 c2 c3
      obtain ⟨oc, od, dt, osl⟩ := o
      cases dt with
      | func fd =>
        obtain ⟨n1, n2, n3, n4, n5, n6, n7, n8, n9, n10, n11, n12, n13, n14, n15⟩ := fd
        have e2 : (some (n1, n2, n3, n4, n5, n6, n8, n9, n15) : BtV) = valBt := c1
        unfold valBt at e2
        simp only [Option.some.injEq, Prod.mk.injEq] at e2
        obtain ⟨h1, h2, h3, h4, h5, h6, h7, h8, h9⟩ := e2
        subst h1 h2 h3 h4 h5 h6 h7 h8 h9
        dsimp only at c2 c3
        obtain ⟨g1, g2⟩ := He.ba c3
        clear c1
        split at c2
        · rename_i y cc
          obtain ⟨k1, k2⟩ := He.ba c2
          have k1' : y = "__class__" := of_decide_eq_true k1
          subst k1'
          split at k2
          · rename_i cl cld Cx csl ecc
            have k3 : Cx = He.ga K "BadText" := of_decide_eq_true k2
            subst k3
            split at g2
            · rename_i a
              split at g2
              · rename_i ccl cdd vs ccs ea
                split at g2
                · rename_i file tf ev
                  have hf : (PySem.Challenge.pw_nogroupleaves_k03_bounds_of_houses.main.file : Str) = file := of_decide_eq_true g2
                  exact ⟨oc, od, n10, n11, n12, n14, osl, msgBt, pBt, cc, a, ccl, cl, cdd, cld, vs, ccs, csl, file, tf, rfl, g1, ea, (by rw [← Array.getElem?_toList]; exact ev), beq_iff_eq.mpr hf, ecc, by decide, fun env => ⟨_, rfl⟩⟩
                · cases g2
              · cases g2
            · cases g2
          · cases k2
        · cases c2
      | _ => cases c1

/-! ### law k03: what the head says -/
def vStr : Value → Option Str
  | .str x _ => some x
  | _ => none
theorem vals_str : ∀ (l : List Str) (us : List Value), us.map vStr = l.map some → Vals (l.map V.str) us
  | [], [], _ => .nil
  | [], _ :: _, h => by cases h
  | _ :: _, [], h => by cases h
  | x :: l, u :: us, h => by
    rw [List.map_cons, List.map_cons] at h
    have h1 := (List.cons.inj h).1
    refine .cons ?_ (vals_str l us (List.cons.inj h).2)
    cases u with
    | str y t =>
      obtain rfl : y = x := Option.some.inj h1
      exact ⟨t, rfl⟩
    | _ => cases h1
def kwB (K : PySem.W.Frag) : Bool := match K.lookup (He.ga K "KEY_WORDS") with
  | some ⟨.type "tuple", _, .seq its _, _⟩ => decide (its.toList.map vStr = KEYS.map some)
  | _ => false
theorem kw_of {K : PySem.W.Frag} (c : kwB K = true) (H : Hp) : SqT K H (He.ga K "KEY_WORDS") (KEYS.map V.str) := by
  unfold kwB at c
  split at c
  · rename_i its n sl e
    have z := of_decide_eq_true c
    have l : its.size = 12 := by
      have z2 := congrArg List.length z
      rw [List.length_map, List.length_map, Array.length_toList] at z2
      exact z2
    exact .inr ⟨_, its, _, e, rfl, rfl, by rw [l]; decide, vals_str _ _ z⟩
  · cases c
theorem callee_of {P : Program} {w : World} {K : PySem.W.Frag} {mg : Str → Option Value} {base : Heap} {CX : CXT} {x : Str} {st : Stmt} {ps : List Str} {k : Nat} {sp : Sp} {f : Addr} {fd : FuncData} (F : FnP K x st f fd) (g : mg x = some (.ref f))
    (b : ∀ (kV doc pm : Value) (an : Option Addr) (cdv ct : Value) (us : List Value), us.length = ps.length → bindArgs (PySem.W.fnOf x x (defArgs st) (defBody st) (defScope st) .none kV doc pm an cdv ct) ⟨us, []⟩ = pure (ps.zip us))
    (h : FnOk P w K mg base CX k f fd ps sp) : Callee P w K mg base CX x ps k sp := ⟨f, fd, g, F.kp, F.bindsN b, h⟩
def d_as_tuples : He.DefD := ⟨("as_tuples", none), "as_tuples", "as_tuples", defArgs s_as_tuples, defBody s_as_tuples, defScope s_as_tuples, [], []⟩
def d_House___init__ : He.DefD := ⟨("House", some "__init__"), "__init__", "House.__init__", defArgs s_House___init__, defBody s_House___init__, defScope s_House___init__, [], []⟩
def d_House___eq__ : He.DefD := ⟨("House", some "__eq__"), "__eq__", "House.__eq__", defArgs s_House___eq__, defBody s_House___eq__, defScope s_House___eq__, [], []⟩
def d_house_text : He.DefD := ⟨("house_text", none), "house_text", "house_text", defArgs s_house_text, defBody s_house_text, defScope s_house_text, [], []⟩
def d__recipe_words : He.DefD := ⟨("_recipe_words", none), "_recipe_words", "_recipe_words", defArgs s__recipe_words, defBody s__recipe_words, defScope s__recipe_words, [], []⟩
def d__amount_words : He.DefD := ⟨("_amount_words", none), "_amount_words", "_amount_words", defArgs s__amount_words, defBody s__amount_words, defScope s__amount_words, [], []⟩
def d_read_house : He.DefD := ⟨("read_house", none), "read_house", "read_house", defArgs s_read_house, defBody s_read_house, defScope s_read_house, [], []⟩
def d__read_goods : He.DefD := ⟨("_read_goods", none), "_read_goods", "_read_goods", defArgs s__read_goods, defBody s__read_goods, defScope s__read_goods, [], []⟩
def d__read_members : He.DefD := ⟨("_read_members", none), "_read_members", "_read_members", defArgs s__read_members, defBody s__read_members, defScope s__read_members, [], []⟩
def d__read_talks : He.DefD := ⟨("_read_talks", none), "_read_talks", "_read_talks", defArgs s__read_talks, defBody s__read_talks, defScope s__read_talks, [], []⟩
def d__read_recipes : He.DefD := ⟨("_read_recipes", none), "_read_recipes", "_read_recipes", defArgs s__read_recipes, defBody s__read_recipes, defScope s__read_recipes, [], []⟩
def d__read_recipe : He.DefD := ⟨("_read_recipe", none), "_read_recipe", "_read_recipe", defArgs s__read_recipe, defBody s__read_recipe, defScope s__read_recipe, [], []⟩
def d__read_needs : He.DefD := ⟨("_read_needs", none), "_read_needs", "_read_needs", defArgs s__read_needs, defBody s__read_needs, defScope s__read_needs, [], []⟩
def d__read_orders : He.DefD := ⟨("_read_orders", none), "_read_orders", "_read_orders", defArgs s__read_orders, defBody s__read_orders, defScope s__read_orders, [], []⟩
def d__read_amounts : He.DefD := ⟨("_read_amounts", none), "_read_amounts", "_read_amounts", defArgs s__read_amounts, defBody s__read_amounts, defScope s__read_amounts, [], []⟩
def d__names_of : He.DefD := ⟨("_names_of", none), "_names_of", "_names_of", defArgs s__names_of, defBody s__names_of, defScope s__names_of, [], []⟩
def d__word_at : He.DefD := ⟨("_word_at", none), "_word_at", "_word_at", defArgs s__word_at, defBody s__word_at, defScope s__word_at, [], []⟩
def d__word_is : He.DefD := ⟨("_word_is", none), "_word_is", "_word_is", defArgs s__word_is, defBody s__word_is, defScope s__word_is, [], []⟩
def d__expect : He.DefD := ⟨("_expect", none), "_expect", "_expect", defArgs s__expect, defBody s__expect, defScope s__expect, [], []⟩
def d__new_name : He.DefD := ⟨("_new_name", none), "_new_name", "_new_name", defArgs s__new_name, defBody s__new_name, defScope s__new_name, [], []⟩
def d__one_of : He.DefD := ⟨("_one_of", none), "_one_of", "_one_of", defArgs s__one_of, defBody s__one_of, defScope s__one_of, [], []⟩
def d__number : He.DefD := ⟨("_number", none), "_number", "_number", defArgs s__number, defBody s__number, defScope s__number, [], []⟩
def d__is_name : He.DefD := ⟨("_is_name", none), "_is_name", "_is_name", defArgs s__is_name, defBody s__is_name, defScope s__is_name, [], []⟩
def d__is_number : He.DefD := ⟨("_is_number", none), "_is_number", "_is_number", defArgs s__is_number, defBody s__is_number, defScope s__is_number, [], []⟩
def d__law_pool : He.DefD := ⟨("_law_pool", none), "_law_pool", "_law_pool", defArgs s__law_pool, defBody s__law_pool, defScope s__law_pool, [], []⟩
def d__law_draw : He.DefD := ⟨("_law_draw", none), "_law_draw", "_law_draw", defArgs s__law_draw, defBody s__law_draw, defScope s__law_draw, [], []⟩
def d__law_same : He.DefD := ⟨("_law_same", none), "_law_same", "_law_same", defArgs s__law_same, defBody s__law_same, defScope s__law_same, [], []⟩
def d__law_at : He.DefD := ⟨("_law_at", none), "_law_at", "_law_at", defArgs s__law_at, defBody s__law_at, defScope s__law_at, [], []⟩
def d__law_many : He.DefD := ⟨("_law_many", none), "_law_many", "_law_many", defArgs s__law_many, defBody s__law_many, defScope s__law_many, [], []⟩
def d_law : He.DefD := ⟨("law", none), "law", "law", defArgs s_law, defBody s_law, defScope s_law, [], []⟩
def fn : List He.DefD := [d_as_tuples, d_House___init__, d_House___eq__, d_house_text, d__recipe_words, d__amount_words, d_read_house, d__read_goods, d__read_members, d__read_talks, d__read_recipes, d__read_recipe, d__read_needs, d__read_orders, d__read_amounts, d__names_of, d__word_at, d__word_is, d__expect, d__new_name, d__one_of, d__number, d__is_name, d__is_number, d__law_pool, d__law_draw, d__law_same, d__law_at, d__law_many, d_law]
def fa : List He.Fa := [.glo "as_tuples", .glo "house_text", .glo "_recipe_words", .glo "_amount_words", .glo "read_house", .glo "_read_goods", .glo "_read_members", .glo "_read_talks", .glo "_read_recipes", .glo "_read_recipe", .glo "_read_needs", .glo "_read_orders", .glo "_read_amounts", .glo "_names_of", .glo "_word_at", .glo "_word_is", .glo "_expect", .glo "_new_name", .glo "_one_of", .glo "_number", .glo "_is_name", .glo "_is_number", .glo "_law_pool", .glo "_law_draw", .glo "_law_same", .glo "_law_at", .glo "_law_many", .glo "law", .free "len", .free "list", .free "tuple", .free "int", .free "str", .free "bool", .free "abs", .free "range", .free "isinstance", .free "min", .free "all", .free "ValueError", .cls "House", .noat "House" "goods", .noat "House" "members", .noat "House" "talks", .noat "House" "recipes", .noat "House" "orders", .mkr "House", .int "MOST_LETTERS" 8, .int "MOST_DIGITS" 4, .int "MOST_GOODS" 4, .int "MOST_MEMBERS" 5, .int "MOST_RECIPES" 3, .int "MOST_TIMES" 4, .int "MOST_NEEDS" 2, .int "MOST_ORDERS" 4, .glo "House", .glo "BadText", .glo "KEY_WORDS", .free "super"]
theorem end_of {P : Program} {w : World} {K : PySem.W.Frag} {h : Heap} {mg : Str → Option Value} {fa0 : Addr} (eP : P = PySem.Challenge.pw_nogroupleaves_k03_bounds_of_houses) (X : K.In h) (G : h.Ns mainGlobals mg) (hfa : mg ("law" : Str) = some (.ref fa0)) (c : He.SaysD fa fn K) (c1 : obsBt K = valBt) (c2 : closBt K = true) (c3 : codBt K = true) (c4 : clsBt K = true) (c5 : restBt K = true) (c6 : kwB K = true) :
    ∃ fd : FuncData, (∀ (s : Shared) (v : Value), BindsTo s fd ⟨[v], []⟩ [("script", v)]) ∧ ∀ base : Heap, K.In base → base.Ns mainGlobals mg → FnOk P w K mg base CX0 12 fa0 fd ["script"] (spLaw3 K) := by
  obtain ⟨fd_as_tuples, F0_as_tuples⟩ := c.def_ 0 (d := d_as_tuples) rfl
  have F_as_tuples : FnP K "as_tuples" s_as_tuples (He.ga K "as_tuples") fd_as_tuples := F0_as_tuples
  obtain ⟨fd_House___init__, F0_House___init__⟩ := c.def_ 1 (d := d_House___init__) rfl
  have F_House___init__ : FnM K "__init__" "House.__init__" s_House___init__ [] (He.ma K (He.ga K "House") "__init__") fd_House___init__ := F0_House___init__
  obtain ⟨fd_House___eq__, F0_House___eq__⟩ := c.def_ 2 (d := d_House___eq__) rfl
  have F_House___eq__ : FnM K "__eq__" "House.__eq__" s_House___eq__ [] (He.ma K (He.ga K "House") "__eq__") fd_House___eq__ := F0_House___eq__
  obtain ⟨fd_house_text, F0_house_text⟩ := c.def_ 3 (d := d_house_text) rfl
  have F_house_text : FnP K "house_text" s_house_text (He.ga K "house_text") fd_house_text := F0_house_text
  obtain ⟨fd__recipe_words, F0__recipe_words⟩ := c.def_ 4 (d := d__recipe_words) rfl
  have F__recipe_words : FnP K "_recipe_words" s__recipe_words (He.ga K "_recipe_words") fd__recipe_words := F0__recipe_words
  obtain ⟨fd__amount_words, F0__amount_words⟩ := c.def_ 5 (d := d__amount_words) rfl
  have F__amount_words : FnP K "_amount_words" s__amount_words (He.ga K "_amount_words") fd__amount_words := F0__amount_words
  obtain ⟨fd_read_house, F0_read_house⟩ := c.def_ 6 (d := d_read_house) rfl
  have F_read_house : FnP K "read_house" s_read_house (He.ga K "read_house") fd_read_house := F0_read_house
  obtain ⟨fd__read_goods, F0__read_goods⟩ := c.def_ 7 (d := d__read_goods) rfl
  have F__read_goods : FnP K "_read_goods" s__read_goods (He.ga K "_read_goods") fd__read_goods := F0__read_goods
  obtain ⟨fd__read_members, F0__read_members⟩ := c.def_ 8 (d := d__read_members) rfl
  have F__read_members : FnP K "_read_members" s__read_members (He.ga K "_read_members") fd__read_members := F0__read_members
  obtain ⟨fd__read_talks, F0__read_talks⟩ := c.def_ 9 (d := d__read_talks) rfl
  have F__read_talks : FnP K "_read_talks" s__read_talks (He.ga K "_read_talks") fd__read_talks := F0__read_talks
  obtain ⟨fd__read_recipes, F0__read_recipes⟩ := c.def_ 10 (d := d__read_recipes) rfl
  have F__read_recipes : FnP K "_read_recipes" s__read_recipes (He.ga K "_read_recipes") fd__read_recipes := F0__read_recipes
  obtain ⟨fd__read_recipe, F0__read_recipe⟩ := c.def_ 11 (d := d__read_recipe) rfl
  have F__read_recipe : FnP K "_read_recipe" s__read_recipe (He.ga K "_read_recipe") fd__read_recipe := F0__read_recipe
  obtain ⟨fd__read_needs, F0__read_needs⟩ := c.def_ 12 (d := d__read_needs) rfl
  have F__read_needs : FnP K "_read_needs" s__read_needs (He.ga K "_read_needs") fd__read_needs := F0__read_needs
  obtain ⟨fd__read_orders, F0__read_orders⟩ := c.def_ 13 (d := d__read_orders) rfl
  have F__read_orders : FnP K "_read_orders" s__read_orders (He.ga K "_read_orders") fd__read_orders := F0__read_orders
  obtain ⟨fd__read_amounts, F0__read_amounts⟩ := c.def_ 14 (d := d__read_amounts) rfl
  have F__read_amounts : FnP K "_read_amounts" s__read_amounts (He.ga K "_read_amounts") fd__read_amounts := F0__read_amounts
  obtain ⟨fd__names_of, F0__names_of⟩ := c.def_ 15 (d := d__names_of) rfl
  have F__names_of : FnP K "_names_of" s__names_of (He.ga K "_names_of") fd__names_of := F0__names_of
  obtain ⟨fd__word_at, F0__word_at⟩ := c.def_ 16 (d := d__word_at) rfl
  have F__word_at : FnP K "_word_at" s__word_at (He.ga K "_word_at") fd__word_at := F0__word_at
  obtain ⟨fd__word_is, F0__word_is⟩ := c.def_ 17 (d := d__word_is) rfl
  have F__word_is : FnP K "_word_is" s__word_is (He.ga K "_word_is") fd__word_is := F0__word_is
  obtain ⟨fd__expect, F0__expect⟩ := c.def_ 18 (d := d__expect) rfl
  have F__expect : FnP K "_expect" s__expect (He.ga K "_expect") fd__expect := F0__expect
  obtain ⟨fd__new_name, F0__new_name⟩ := c.def_ 19 (d := d__new_name) rfl
  have F__new_name : FnP K "_new_name" s__new_name (He.ga K "_new_name") fd__new_name := F0__new_name
  obtain ⟨fd__one_of, F0__one_of⟩ := c.def_ 20 (d := d__one_of) rfl
  have F__one_of : FnP K "_one_of" s__one_of (He.ga K "_one_of") fd__one_of := F0__one_of
  obtain ⟨fd__number, F0__number⟩ := c.def_ 21 (d := d__number) rfl
  have F__number : FnP K "_number" s__number (He.ga K "_number") fd__number := F0__number
  obtain ⟨fd__is_name, F0__is_name⟩ := c.def_ 22 (d := d__is_name) rfl
  have F__is_name : FnP K "_is_name" s__is_name (He.ga K "_is_name") fd__is_name := F0__is_name
  obtain ⟨fd__is_number, F0__is_number⟩ := c.def_ 23 (d := d__is_number) rfl
  have F__is_number : FnP K "_is_number" s__is_number (He.ga K "_is_number") fd__is_number := F0__is_number
  obtain ⟨fd__law_pool, F0__law_pool⟩ := c.def_ 24 (d := d__law_pool) rfl
  have F__law_pool : FnP K "_law_pool" s__law_pool (He.ga K "_law_pool") fd__law_pool := F0__law_pool
  obtain ⟨fd__law_draw, F0__law_draw⟩ := c.def_ 25 (d := d__law_draw) rfl
  have F__law_draw : FnP K "_law_draw" s__law_draw (He.ga K "_law_draw") fd__law_draw := F0__law_draw
  obtain ⟨fd__law_same, F0__law_same⟩ := c.def_ 26 (d := d__law_same) rfl
  have F__law_same : FnP K "_law_same" s__law_same (He.ga K "_law_same") fd__law_same := F0__law_same
  obtain ⟨fd__law_at, F0__law_at⟩ := c.def_ 27 (d := d__law_at) rfl
  have F__law_at : FnP K "_law_at" s__law_at (He.ga K "_law_at") fd__law_at := F0__law_at
  obtain ⟨fd__law_many, F0__law_many⟩ := c.def_ 28 (d := d__law_many) rfl
  have F__law_many : FnP K "_law_many" s__law_many (He.ga K "_law_many") fd__law_many := F0__law_many
  obtain ⟨fd_law, F0_law⟩ := c.def_ 29 (d := d_law) rfl
  have F_law : FnP K "law" s_law (He.ga K "law") fd_law := F0_law
  have gl_as_tuples : mg "as_tuples" = some (.ref (He.ga K "as_tuples")) := He.glo_ok X G (c.fact 0 (f := .glo "as_tuples") rfl)
  have gl_house_text : mg "house_text" = some (.ref (He.ga K "house_text")) := He.glo_ok X G (c.fact 1 (f := .glo "house_text") rfl)
  have gl__recipe_words : mg "_recipe_words" = some (.ref (He.ga K "_recipe_words")) := He.glo_ok X G (c.fact 2 (f := .glo "_recipe_words") rfl)
  have gl__amount_words : mg "_amount_words" = some (.ref (He.ga K "_amount_words")) := He.glo_ok X G (c.fact 3 (f := .glo "_amount_words") rfl)
  have gl_read_house : mg "read_house" = some (.ref (He.ga K "read_house")) := He.glo_ok X G (c.fact 4 (f := .glo "read_house") rfl)
  have gl__read_goods : mg "_read_goods" = some (.ref (He.ga K "_read_goods")) := He.glo_ok X G (c.fact 5 (f := .glo "_read_goods") rfl)
  have gl__read_members : mg "_read_members" = some (.ref (He.ga K "_read_members")) := He.glo_ok X G (c.fact 6 (f := .glo "_read_members") rfl)
  have gl__read_talks : mg "_read_talks" = some (.ref (He.ga K "_read_talks")) := He.glo_ok X G (c.fact 7 (f := .glo "_read_talks") rfl)
  have gl__read_recipes : mg "_read_recipes" = some (.ref (He.ga K "_read_recipes")) := He.glo_ok X G (c.fact 8 (f := .glo "_read_recipes") rfl)
  have gl__read_recipe : mg "_read_recipe" = some (.ref (He.ga K "_read_recipe")) := He.glo_ok X G (c.fact 9 (f := .glo "_read_recipe") rfl)
  have gl__read_needs : mg "_read_needs" = some (.ref (He.ga K "_read_needs")) := He.glo_ok X G (c.fact 10 (f := .glo "_read_needs") rfl)
  have gl__read_orders : mg "_read_orders" = some (.ref (He.ga K "_read_orders")) := He.glo_ok X G (c.fact 11 (f := .glo "_read_orders") rfl)
  have gl__read_amounts : mg "_read_amounts" = some (.ref (He.ga K "_read_amounts")) := He.glo_ok X G (c.fact 12 (f := .glo "_read_amounts") rfl)
  have gl__names_of : mg "_names_of" = some (.ref (He.ga K "_names_of")) := He.glo_ok X G (c.fact 13 (f := .glo "_names_of") rfl)
  have gl__word_at : mg "_word_at" = some (.ref (He.ga K "_word_at")) := He.glo_ok X G (c.fact 14 (f := .glo "_word_at") rfl)
  have gl__word_is : mg "_word_is" = some (.ref (He.ga K "_word_is")) := He.glo_ok X G (c.fact 15 (f := .glo "_word_is") rfl)
  have gl__expect : mg "_expect" = some (.ref (He.ga K "_expect")) := He.glo_ok X G (c.fact 16 (f := .glo "_expect") rfl)
  have gl__new_name : mg "_new_name" = some (.ref (He.ga K "_new_name")) := He.glo_ok X G (c.fact 17 (f := .glo "_new_name") rfl)
  have gl__one_of : mg "_one_of" = some (.ref (He.ga K "_one_of")) := He.glo_ok X G (c.fact 18 (f := .glo "_one_of") rfl)
  have gl__number : mg "_number" = some (.ref (He.ga K "_number")) := He.glo_ok X G (c.fact 19 (f := .glo "_number") rfl)
  have gl__is_name : mg "_is_name" = some (.ref (He.ga K "_is_name")) := He.glo_ok X G (c.fact 20 (f := .glo "_is_name") rfl)
  have gl__is_number : mg "_is_number" = some (.ref (He.ga K "_is_number")) := He.glo_ok X G (c.fact 21 (f := .glo "_is_number") rfl)
  have gl__law_pool : mg "_law_pool" = some (.ref (He.ga K "_law_pool")) := He.glo_ok X G (c.fact 22 (f := .glo "_law_pool") rfl)
  have gl__law_draw : mg "_law_draw" = some (.ref (He.ga K "_law_draw")) := He.glo_ok X G (c.fact 23 (f := .glo "_law_draw") rfl)
  have gl__law_same : mg "_law_same" = some (.ref (He.ga K "_law_same")) := He.glo_ok X G (c.fact 24 (f := .glo "_law_same") rfl)
  have gl__law_at : mg "_law_at" = some (.ref (He.ga K "_law_at")) := He.glo_ok X G (c.fact 25 (f := .glo "_law_at") rfl)
  have gl__law_many : mg "_law_many" = some (.ref (He.ga K "_law_many")) := He.glo_ok X G (c.fact 26 (f := .glo "_law_many") rfl)
  have gl_law : mg "law" = some (.ref (He.ga K "law")) := He.glo_ok X G (c.fact 27 (f := .glo "law") rfl)
  have fr_len : mg "len" = none := He.free_ok X G (c.fact 28 (f := .free "len") rfl)
  have fr_list : mg "list" = none := He.free_ok X G (c.fact 29 (f := .free "list") rfl)
  have fr_tuple : mg "tuple" = none := He.free_ok X G (c.fact 30 (f := .free "tuple") rfl)
  have fr_int : mg "int" = none := He.free_ok X G (c.fact 31 (f := .free "int") rfl)
  have fr_str : mg "str" = none := He.free_ok X G (c.fact 32 (f := .free "str") rfl)
  have fr_bool : mg "bool" = none := He.free_ok X G (c.fact 33 (f := .free "bool") rfl)
  have fr_abs : mg "abs" = none := He.free_ok X G (c.fact 34 (f := .free "abs") rfl)
  have fr_range : mg "range" = none := He.free_ok X G (c.fact 35 (f := .free "range") rfl)
  have fr_isinstance : mg "isinstance" = none := He.free_ok X G (c.fact 36 (f := .free "isinstance") rfl)
  have fr_min : mg "min" = none := He.free_ok X G (c.fact 37 (f := .free "min") rfl)
  have fr_all : mg "all" = none := He.free_ok X G (c.fact 38 (f := .free "all") rfl)
  have fr_ValueError : mg "ValueError" = none := He.free_ok X G (c.fact 39 (f := .free "ValueError") rfl)
  have cl_House := He.cls_ok (c.fact 40 (f := .cls "House") rfl)
  have na_House_goods := He.noat_ok (c.fact 41 (f := .noat "House" "goods") rfl)
  have na_House_members := He.noat_ok (c.fact 42 (f := .noat "House" "members") rfl)
  have na_House_talks := He.noat_ok (c.fact 43 (f := .noat "House" "talks") rfl)
  have na_House_recipes := He.noat_ok (c.fact 44 (f := .noat "House" "recipes") rfl)
  have na_House_orders := He.noat_ok (c.fact 45 (f := .noat "House" "orders") rfl)
  have mk_House := He.mkr_ok (c.fact 46 (f := .mkr "House") rfl)
  have in_MOST_LETTERS := He.int_ok X G (c.fact 47 (f := .int "MOST_LETTERS" 8) rfl)
  have in_MOST_DIGITS := He.int_ok X G (c.fact 48 (f := .int "MOST_DIGITS" 4) rfl)
  have in_MOST_GOODS := He.int_ok X G (c.fact 49 (f := .int "MOST_GOODS" 4) rfl)
  have in_MOST_MEMBERS := He.int_ok X G (c.fact 50 (f := .int "MOST_MEMBERS" 5) rfl)
  have in_MOST_RECIPES := He.int_ok X G (c.fact 51 (f := .int "MOST_RECIPES" 3) rfl)
  have in_MOST_TIMES := He.int_ok X G (c.fact 52 (f := .int "MOST_TIMES" 4) rfl)
  have in_MOST_NEEDS := He.int_ok X G (c.fact 53 (f := .int "MOST_NEEDS" 2) rfl)
  have in_MOST_ORDERS := He.int_ok X G (c.fact 54 (f := .int "MOST_ORDERS" 4) rfl)
  have gl_House : mg "House" = some (.ref (He.ga K "House")) := He.glo_ok X G (c.fact 55 (f := .glo "House") rfl)
  have gl_BadText : mg "BadText" = some (.ref (He.ga K "BadText")) := He.glo_ok X G (c.fact 56 (f := .glo "BadText") rfl)
  have gl_KEY_WORDS : mg "KEY_WORDS" = some (.ref (He.ga K "KEY_WORDS")) := He.glo_ok X G (c.fact 57 (f := .glo "KEY_WORDS") rfl)
  have fr_super : mg "super" = none := He.free_ok X G (c.fact 58 (f := .free "super") rfl)
  have M : MB mg := ⟨fr_len, fr_list, fr_tuple, fr_int, fr_str, fr_bool, fr_abs, fr_range, fr_isinstance, fr_min, fr_all, fr_ValueError⟩
  have e := hfa.symm.trans gl_law
  cases e
  have bt := bt_of X G gl_BadText fr_super c1 c2 c3 c4 c5
  rw [← eP] at bt
  let CB : Addr := He.ga K "BadText"
  let CH : Addr := He.ga K "House"
  have T : HT P K mg (He.ga K "KEY_WORDS") CB (He.ma K (He.ga K "BadText") "__init__") :=
    { bt := bt, gk := gl_KEY_WORDS, sk := kw_of c6, i1 := in_MOST_LETTERS, i2 := in_MOST_DIGITS, i3 := in_MOST_GOODS, i4 := in_MOST_MEMBERS, i5 := in_MOST_RECIPES, i6 := in_MOST_TIMES, i7 := in_MOST_NEEDS, i8 := in_MOST_ORDERS }
  have TH : HouT K mg CH := { cl := cl_House, n1 := na_House_goods, n2 := na_House_members, n3 := na_House_talks, n4 := na_House_recipes, n5 := na_House_orders, gC := gl_House }
  have b := FunD.bindsA (ps := ["script"]) F_law fun _ _ _ _ _ _ us hl => match us, hl with | [_], _ => rfl
  refine ⟨fd_law, fun s v => b s [v] rfl, fun base _ _ => ?_⟩
  have c_as_tuples : Callee P w K mg base CX0 "as_tuples" ["part"] 6 (spTuples K 5) := callee_of F_as_tuples gl_as_tuples (fun _ _ _ _ _ _ us hl => match us, hl with | [_], _ => rfl) (ok_as_tuples M F_as_tuples gl_as_tuples 5)
  have oi : FnOk P w K mg base CX0 7 (He.ma K (He.ga K "House") "__init__") fd_House___init__ ["self", "goods", "members", "talks", "recipes", "orders"] (spHInit K CH 5) := ok_House_init TH 5 F_House___init__ c_as_tuples
  have MH : MakeF P w K mg base CX0 "House" CH ["self", "goods", "members", "talks", "recipes", "orders"] [] 7 (spHInit K CH 5) :=
    ⟨gl_House, _, _, [], mk_House, .nil, F_House___init__.bindsN fun _ _ _ _ _ _ us hl => match us, hl with | [_, _, _, _, _, _], _ => rfl, oi⟩
  have c__is_name : Callee P w K mg base CX0 "_is_name" ["word"] 1 spIsName := callee_of F__is_name gl__is_name (fun _ _ _ _ _ _ us hl => match us, hl with | [_], _ => rfl) (ok__is_name M T F__is_name)
  have c__is_number : Callee P w K mg base CX0 "_is_number" ["word"] 1 spIsNumber := callee_of F__is_number gl__is_number (fun _ _ _ _ _ _ us hl => match us, hl with | [_], _ => rfl) (ok__is_number M T F__is_number)
  have c__word_at : Callee P w K mg base CX0 "_word_at" ["words", "at"] 1 (spWordAt K) := callee_of F__word_at gl__word_at (fun _ _ _ _ _ _ us hl => match us, hl with | [_, _], _ => rfl) (ok__word_at M F__word_at)
  have c__word_is : Callee P w K mg base CX0 "_word_is" ["words", "at", "word"] 2 (spWordIs K) := callee_of F__word_is gl__word_is (fun _ _ _ _ _ _ us hl => match us, hl with | [_, _, _], _ => rfl) (ok__word_is F__word_is c__word_at)
  have c__expect : Callee P w K mg base (L2.CX P w) "_expect" ["words", "at", "word"] 3 (spExpect K CB) := callee_of F__expect gl__expect (fun _ _ _ _ _ _ us hl => match us, hl with | [_, _, _], _ => rfl) (ok__expect T F__expect c__word_is)
  have c__new_name : Callee P w K mg base (L2.CX P w) "_new_name" ["words", "at", "taken"] 2 (spNewName K CB) := callee_of F__new_name gl__new_name (fun _ _ _ _ _ _ us hl => match us, hl with | [_, _, _], _ => rfl) (ok__new_name T F__new_name c__word_at c__is_name)
  have c__number : Callee P w K mg base (L2.CX P w) "_number" ["words", "at"] 2 (spNumber K CB) := callee_of F__number gl__number (fun _ _ _ _ _ _ us hl => match us, hl with | [_, _], _ => rfl) (ok__number T M F__number c__word_at c__is_number)
  have c__one_of : Callee P w K mg base (L2.CX P w) "_one_of" ["words", "at", "names", "indexes"] 3 (spOneOf K CB) := callee_of F__one_of gl__one_of (fun _ _ _ _ _ _ us hl => match us, hl with | [_, _, _, _], _ => rfl) (ok__one_of T F__one_of c__word_is)
  have c__read_amounts : Callee P w K mg base (L2.CX P w) "_read_amounts" ["words", "at", "key", "goods"] 4 (spReadAmounts K CB) := callee_of F__read_amounts gl__read_amounts (fun _ _ _ _ _ _ us hl => match us, hl with | [_, _, _, _], _ => rfl) (ok__read_amounts T M F__read_amounts c__word_is c__one_of c__number)
  have c__names_of : Callee P w K mg base CX0 "_names_of" ["parts"] 1 (spNamesOf K) := callee_of F__names_of gl__names_of (fun _ _ _ _ _ _ us hl => match us, hl with | [_], _ => rfl) (ok__names_of F__names_of)
  have c__read_goods : Callee P w K mg base (L2.CX P w) "_read_goods" ["words"] 4 (spReadGoods K CB) := callee_of F__read_goods gl__read_goods (fun _ _ _ _ _ _ us hl => match us, hl with | [_], _ => rfl) (ok__read_goods T M F__read_goods c__word_is c__expect c__new_name)
  have c__read_members : Callee P w K mg base (L2.CX P w) "_read_members" ["words", "at", "goods"] 5 (spReadMembers K CB) := callee_of F__read_members gl__read_members (fun _ _ _ _ _ _ us hl => match us, hl with | [_, _, _], _ => rfl) (ok__read_members T M F__read_members c__word_is c__expect c__new_name c__names_of c__read_amounts)
  have c__read_orders : Callee P w K mg base (L2.CX P w) "_read_orders" ["words", "at", "goods"] 5 (spReadOrders K CB) := callee_of F__read_orders gl__read_orders (fun _ _ _ _ _ _ us hl => match us, hl with | [_, _, _], _ => rfl) (ok__read_orders T M F__read_orders c__word_is c__expect c__new_name c__number c__names_of c__read_amounts)
  have c__read_needs : Callee P w K mg base (L2.CX P w) "_read_needs" ["words", "at", "names"] 4 (spReadNeeds K CB) := callee_of F__read_needs gl__read_needs (fun _ _ _ _ _ _ us hl => match us, hl with | [_, _, _], _ => rfl) (ok__read_needs T M F__read_needs c__word_is c__one_of)
  have c__read_recipe : Callee P w K mg base (L2.CX P w) "_read_recipe" ["words", "at", "taken", "goods", "names"] 5 (spReadRecipe K CB) := callee_of F__read_recipe gl__read_recipe (fun _ _ _ _ _ _ us hl => match us, hl with | [_, _, _, _, _], _ => rfl) (ok__read_recipe T F__read_recipe c__expect c__new_name c__number c__read_needs c__read_amounts)
  have c__read_talks : Callee P w K mg base (L2.CX P w) "_read_talks" ["words", "at", "names"] 4 (spReadTalks K CB) := callee_of F__read_talks gl__read_talks (fun _ _ _ _ _ _ us hl => match us, hl with | [_, _, _], _ => rfl) (ok__read_talks T M F__read_talks c__word_is c__one_of)
  have c__read_recipes : Callee P w K mg base (L2.CX P w) "_read_recipes" ["words", "at", "goods", "names"] 6 (spReadRecipes K CB) := callee_of F__read_recipes gl__read_recipes (fun _ _ _ _ _ _ us hl => match us, hl with | [_, _, _, _], _ => rfl) (ok__read_recipes T M F__read_recipes c__word_is c__names_of c__read_recipe)
  have c_read_house : Callee P w K mg base (L2.CX P w) "read_house" ["text"] 9 (spReadHouse K CB CH) := callee_of F_read_house gl_read_house (fun _ _ _ _ _ _ us hl => match us, hl with | [_], _ => rfl) (ok_read_house T M F_read_house c__read_goods c__read_members c__names_of c__read_talks c__read_recipes c__read_orders MH)
  have c__amount_words : Callee P w K mg base CX0 "_amount_words" ["key", "goods", "amounts"] 1 (spAmountWords K) := callee_of F__amount_words gl__amount_words (fun _ _ _ _ _ _ us hl => match us, hl with | [_, _, _], _ => rfl) (ok__amount_words M F__amount_words)
  have c__recipe_words : Callee P w K mg base CX0 "_recipe_words" ["goods", "names", "recipe"] 2 (spRecipeWords K) := callee_of F__recipe_words gl__recipe_words (fun _ _ _ _ _ _ us hl => match us, hl with | [_, _, _], _ => rfl) (ok__recipe_words M F__recipe_words c__amount_words)
  have c_house_text : Callee P w K mg base CX0 "house_text" ["house"] 3 (spHouseText K CH) := callee_of F_house_text gl_house_text (fun _ _ _ _ _ _ us hl => match us, hl with | [_], _ => rfl) (ok_house_text TH M F_house_text c__names_of c__amount_words c__recipe_words)
  have c__law_at : Callee P w K mg base CX0 "_law_at" ["words"] 10 (spLawAt K) := callee_of F__law_at gl__law_at (fun _ _ _ _ _ _ us hl => match us, hl with | [_], _ => rfl) (ok__law_at T M F__law_at c_read_house c_house_text)
  have c_same : Callee P w K mg base CX0 "_law_same" ["actual", "due"] 2 (spSame K 1) := callee_of F__law_same gl__law_same (fun _ _ _ _ _ _ us hl => match us, hl with | [_, _], _ => rfl) (ok__law_same M F__law_same gl__law_same 1)
  have c__law_many : Callee P w K mg base CX0 "_law_many" ["head", "rows", "upper", "rest"] 11 (spLawMany K) := callee_of F__law_many gl__law_many (fun _ _ _ _ _ _ us hl => match us, hl with | [_, _, _, _], _ => rfl) (ok__law_many M F__law_many c__law_at c_same)
  exact ok_law3 M F_law (callee_of F__law_pool gl__law_pool (fun _ _ _ _ _ _ us hl => match us, hl with | [_, _], _ => rfl) (ok__law_pool M F__law_pool)) (callee_of F__law_draw gl__law_draw (fun _ _ _ _ _ _ us hl => match us, hl with | [_, _], _ => rfl) (ok__law_draw M F__law_draw))
    (callee_of F__law_draw gl__law_draw (fun _ _ _ _ _ _ us hl => match us, hl with | [_, _], _ => rfl) (ok__law_draw2 M F__law_draw)) c__law_many c__law_at c_same

end NG
open PySem PySem.W PyProof.Rows
set_option maxHeartbeats 0 in
theorem PySem.Challenge.cw_nogroupleaves_k03_bounds_of_houses_holds : PySem.Challenge.rw_nogroupleaves_k03_bounds_of_houses.Holds := by
  refine NG.hd ?_
  k_fill
  refine L2.walk_of (l := PySem.Challenge.rw_nogroupleaves_k03_bounds_of_houses) (n := 63) (k := 12) (x := "script") (CX := fun _ => L2.CX0) (sp := fun w => NG.spLaw3 _) rfl (by decide) rfl ⟨rfl, by decide, by decide⟩ (fun w h Y => PySem.W.kIn_of Y) ?F (fun _ _ a ns hl _ hS => ⟨a, ns, rfl, hS, fun _ => rfl⟩) (fun _ _ _ _ _ h => h)
  case F =>
    intro w mg fa h KX G hmg
    have c : He.SaysD NG.fa NG.fn (L2.KOf KX) := by
      show He.obsD NG.fa NG.fn (L2.KOf KX) = He.valD NG.fn
      kernel_rfl
    have c1 : NG.obsBt (L2.KOf KX) = NG.valBt := by kernel_rfl
    have c2 : NG.closBt (L2.KOf KX) = true := by kernel_rfl
    have c3 : NG.codBt (L2.KOf KX) = true := by kernel_rfl
    have c4 : NG.clsBt (L2.KOf KX) = true := by kernel_rfl
    have c5 : NG.restBt (L2.KOf KX) = true := by kernel_rfl
    have c6 : NG.kwB (L2.KOf KX) = true := by kernel_rfl
    exact NG.end_of rfl KX G hmg c c1 c2 c3 c4 c5 c6
