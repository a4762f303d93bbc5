import PyProof.Rows.All
import Wide.All
import OpenK.AllK
import Wide.FinOn
import PySem.Challenge.RW_nogroupleaves_k00_fractions
import HandS.ForMost
import HandS.Defaults
import HandS.IsInst
import HandS.Wide
import HandS.Gcd
import HandS.FStr
import HandS.Evl
import HandS.TupAny
import HandS.WordsExc
import HandS.ExcIs
import HandS.MakeKw
import HandS.MakeKwOnly
import HandS.SlotsOwn
import HandS.HeadHook2
import KE.KCallOwn

set_option Elab.async false
set_option linter.all false
set_option maxRecDepth 100000
set_option maxHeartbeats 4000000
namespace NG
section
open PySem PySem.W PyProof.Rows
set_option maxHeartbeats 0
open_top hd for PySem.Challenge.rw_nogroupleaves_k00_fractions
end
open PySem PySem.Spec PyProof.Rows L2
def topS (i : Nat) : Stmt := PySem.Challenge.pw_nogroupleaves_k00_fractions.main.body.getD i (.Pass ⟨0, 0, 0, 0⟩)
abbrev s_Ratio___init__ : Stmt := inClass (topS 11) 0
abbrev N_Ratio___init__ : List Str := ["self", "num", "den", "shared"]
theorem sc_Ratio___init__ : FnScope N_Ratio___init__ ["self", "num", "den"] (defScope s_Ratio___init__) := ⟨rfl, rfl, rfl, by decide +kernel, rfl, by decide +kernel, by decide +kernel⟩
abbrev s_Ratio___add__ : Stmt := inClass (topS 11) 1
abbrev N_Ratio___add__ : List Str := ["self", "other"]
theorem sc_Ratio___add__ : FnScope N_Ratio___add__ ["self", "other"] (defScope s_Ratio___add__) := ⟨rfl, rfl, rfl, by decide +kernel, rfl, by decide +kernel, by decide +kernel⟩
abbrev s_Ratio___sub__ : Stmt := inClass (topS 11) 2
abbrev N_Ratio___sub__ : List Str := ["self", "other"]
theorem sc_Ratio___sub__ : FnScope N_Ratio___sub__ ["self", "other"] (defScope s_Ratio___sub__) := ⟨rfl, rfl, rfl, by decide +kernel, rfl, by decide +kernel, by decide +kernel⟩
abbrev s_Ratio___mul__ : Stmt := inClass (topS 11) 3
abbrev N_Ratio___mul__ : List Str := ["self", "other"]
theorem sc_Ratio___mul__ : FnScope N_Ratio___mul__ ["self", "other"] (defScope s_Ratio___mul__) := ⟨rfl, rfl, rfl, by decide +kernel, rfl, by decide +kernel, by decide +kernel⟩
abbrev s_Ratio___eq__ : Stmt := inClass (topS 11) 4
abbrev N_Ratio___eq__ : List Str := ["self", "other"]
theorem sc_Ratio___eq__ : FnScope N_Ratio___eq__ ["self", "other"] (defScope s_Ratio___eq__) := ⟨rfl, rfl, rfl, by decide +kernel, rfl, by decide +kernel, by decide +kernel⟩
abbrev s_Ratio___str__ : Stmt := inClass (topS 11) 5
abbrev N_Ratio___str__ : List Str := ["self"]
theorem sc_Ratio___str__ : FnScope N_Ratio___str__ ["self"] (defScope s_Ratio___str__) := ⟨rfl, rfl, rfl, by decide +kernel, rfl, by decide +kernel, by decide +kernel⟩
abbrev s_Ratio_less : Stmt := inClass (topS 11) 6
abbrev N_Ratio_less : List Str := ["self", "other"]
theorem sc_Ratio_less : FnScope N_Ratio_less ["self", "other"] (defScope s_Ratio_less) := ⟨rfl, rfl, rfl, by decide +kernel, rfl, by decide +kernel, by decide +kernel⟩
abbrev s_Ratio_over : Stmt := inClass (topS 11) 7
abbrev N_Ratio_over : List Str := ["self", "other"]
theorem sc_Ratio_over : FnScope N_Ratio_over ["self", "other"] (defScope s_Ratio_over) := ⟨rfl, rfl, rfl, by decide +kernel, rfl, by decide +kernel, by decide +kernel⟩
abbrev s__law_pool : Stmt := topS 13
abbrev N__law_pool : List Str := ["script", "budget"]
theorem sc__law_pool : FnScope N__law_pool ["script", "budget"] (defScope s__law_pool) := ⟨rfl, rfl, rfl, by decide +kernel, rfl, by decide +kernel, by decide +kernel⟩
abbrev s__law_draw : Stmt := topS 14
abbrev N__law_draw : List Str := ["pool", "size", "cell", "value"]
theorem sc__law_draw : FnScope N__law_draw ["pool", "size"] (defScope s__law_draw) := ⟨rfl, rfl, rfl, by decide +kernel, rfl, by decide +kernel, by decide +kernel⟩
abbrev s__law_same : Stmt := topS 15
abbrev N__law_same : List Str := ["actual", "due", "k"]
theorem sc__law_same : FnScope N__law_same ["actual", "due"] (defScope s__law_same) := ⟨rfl, rfl, rfl, by decide +kernel, rfl, by decide +kernel, by decide +kernel⟩
abbrev s__law_less : Stmt := topS 16
abbrev N__law_less : List Str := ["num", "den", "a", "b", "k"]
theorem sc__law_less : FnScope N__law_less ["num", "den"] (defScope s__law_less) := ⟨rfl, rfl, rfl, by decide +kernel, rfl, by decide +kernel, by decide +kernel⟩
abbrev s__law_plus : Stmt := topS 17
abbrev N__law_plus : List Str := ["one", "other"]
theorem sc__law_plus : FnScope N__law_plus ["one", "other"] (defScope s__law_plus) := ⟨rfl, rfl, rfl, by decide +kernel, rfl, by decide +kernel, by decide +kernel⟩
abbrev s__law_minus : Stmt := topS 18
abbrev N__law_minus : List Str := ["one", "other"]
theorem sc__law_minus : FnScope N__law_minus ["one", "other"] (defScope s__law_minus) := ⟨rfl, rfl, rfl, by decide +kernel, rfl, by decide +kernel, by decide +kernel⟩
abbrev s__law_times : Stmt := topS 19
abbrev N__law_times : List Str := ["one", "other"]
theorem sc__law_times : FnScope N__law_times ["one", "other"] (defScope s__law_times) := ⟨rfl, rfl, rfl, by decide +kernel, rfl, by decide +kernel, by decide +kernel⟩
abbrev s__law_below : Stmt := topS 20
abbrev N__law_below : List Str := ["one", "other"]
theorem sc__law_below : FnScope N__law_below ["one", "other"] (defScope s__law_below) := ⟨rfl, rfl, rfl, by decide +kernel, rfl, by decide +kernel, by decide +kernel⟩
abbrev s__law_is : Stmt := topS 21
abbrev N__law_is : List Str := ["ratio", "due"]
theorem sc__law_is : FnScope N__law_is ["ratio", "due"] (defScope s__law_is) := ⟨rfl, rfl, rfl, by decide +kernel, rfl, by decide +kernel, by decide +kernel⟩
abbrev s__law_refused : Stmt := topS 22
abbrev N__law_refused : List Str := ["one", "other", "e", "good"]
theorem sc__law_refused : FnScope N__law_refused ["one", "other"] (defScope s__law_refused) := ⟨rfl, rfl, rfl, by decide +kernel, rfl, by decide +kernel, by decide +kernel⟩
abbrev s__law_pair : Stmt := topS 23
abbrev N__law_pair : List Str := ["pool", "one", "two", "k", "num"]
theorem sc__law_pair : FnScope N__law_pair ["pool"] (defScope s__law_pair) := ⟨rfl, rfl, rfl, by decide +kernel, rfl, by decide +kernel, by decide +kernel⟩
abbrev s_law : Stmt := topS 24
abbrev N_law : List Str := ["script", "pool", "turn", "one", "other", "a", "b", "due", "text", "sign"]
theorem sc_law : FnScope N_law ["script"] (defScope s_law) := ⟨rfl, rfl, rfl, by decide +kernel, rfl, by decide +kernel, by decide +kernel⟩
/-! ### callees by name -/
/-- the built-in names that the module leaves alone -/
structure MB (mg : Str → Option Value) : Prop where
  len : mg "len" = none
  list : mg "list" = none
  tuple : mg "tuple" = none
  int : mg "int" = none
  str : mg "str" = none
  bool : mg "bool" = none
  abs : mg "abs" = none
  range : mg "range" = none
  isinstance : mg "isinstance" = none
  min : mg "min" = none
  all : mg "all" = none
  ValueError : mg "ValueError" = none
abbrev FnP (K : PySem.W.Frag) (x : Str) (st : Stmt) (f : Addr) (fd : FuncData) : Prop := FunD K x x (defArgs st) (defBody st) (defScope st) [] [] f fd
structure Callee (P : Program) (w : World) (K : PySem.W.Frag) (mg : Str → Option Value) (base : Heap) (CX : CXT) (x : Str) (ps : List Str) (k : Nat) (sp : Sp) : Prop where
  ex : ∃ f fd, mg x = some (.ref f) ∧ PySem.W.keepIn K (.ref f) = true ∧ Binds K fd ps [] ∧ FnOk P w K mg base CX k f fd ps sp
section
variable {X : Cx} {CX : CXT} {k : Nat} {ps : List Str} {sp : Sp} {E : XK} {x : Str} {p pos : Pos} {e : Expr} {es : List Expr} {t : TA}
theorem pe_callX (C : Callee X.prog X.w X.K X.mg X.base CX x ps k sp) (hr : Room k X.A) (hg : Gl X x) (hx : Passes CX X E) (ha : PA X (e :: es) t) (hdb : (x == ("__debug__" : Str)) = false := by decide)
    (he : starEach (e :: es) X.env = (false, eval e X.env) :: starEach es X.env := by rfl) (hpl : (backTo pos (starEach es X.env)).any (·.1) = false := by rfl) :
    PE X (.Call (.Name x p) (e :: es) [] pos) (tCall sp [] E t) := by
  obtain ⟨f, fd, h1, h2, h3, h4⟩ := C.ex
  exact pe_call h4 hr hg h1 h2 h3 .nil hx ha hdb he hpl
/-- f(e, ..), f lets nothing out -/
theorem pe_callC (C : Callee X.prog X.w X.K X.mg X.base CX0 x ps k sp) (hr : Room k X.A) (hg : Gl X x) (ha : PA X (e :: es) t) (hdb : (x == ("__debug__" : Str)) = false := by decide)
    (he : starEach (e :: es) X.env = (false, eval e X.env) :: starEach es X.env := by rfl) (hpl : (backTo pos (starEach es X.env)).any (·.1) = false := by rfl) :
    PE X (.Call (.Name x p) (e :: es) [] pos) (tCall sp [] E0 t) := pe_callX C hr hg pass0 ha hdb he hpl
end
/-! ### heaps -/
theorem same_upd {H : Hp} {p : Addr} {o : HO} (h : H p = none) : Same H (upd H p o) := fun b x e => by
  rw [upd_ne (ne_of_none e h)]
  exact e
theorem same_seqT {K : PySem.W.Frag} {H H' : Hp} {a : Addr} {xs : List V} (e : Same H H') (h : SqT K H a xs) : SqT K H' a xs := by
  rcases h with (h | ⟨o, h⟩) | h
  · exact .inl (.inl (e _ _ h))
  · exact .inl (.inr ⟨o, e _ _ h⟩)
  · exact .inr h
/-- all but p stands -/
def Kp (p : Addr) (H H' : Hp) : Prop := ∀ b o, b ≠ p → H b = some o → H' b = some o
theorem Kp.refl {p : Addr} {H : Hp} : Kp p H H := fun _ _ _ e => e
theorem Kp.trans {p : Addr} {H H1 H2 : Hp} (a : Kp p H H1) (b : Kp p H1 H2) : Kp p H H2 := fun c o n e => b c o n (a c o n e)
theorem Kp.same {p : Addr} {H H1 : Hp} (a : Same H H1) : Kp p H H1 := fun c o _ e => a c o e
theorem Kp.upd {p : Addr} {H : Hp} {o : HO} : Kp p H (upd H p o) := fun c u n e => by
  rw [upd_ne n]
  exact e
/-! ### the pool of draws -/
/-- the pool at p: a copy of the script at s, and five ints -/
def poolO (s : Addr) (i cur seed run bud : Int) : HO := .lst [.ref s, .int i, .int cur, .int seed, .int run, .int bud]
structure PoolIs (H : Hp) (p s : Addr) (ns : List Int) (i cur seed run bud : Int) : Prop where
  at_ : H p = some (poolO s i cur seed run bud)
  sc : H s = some (.lst (ns.map V.int))
  ne : s ≠ p
  i0 : 0 ≤ i
  s0 : 0 ≤ seed
  s1 : seed < 2147483647
def Pool (H : Hp) (p : Addr) : Prop := ∃ s ns i cur seed run bud, PoolIs H p s ns i cur seed run bud
theorem Pool.there {H : Hp} {p : Addr} (h : Pool H p) : ∃ s i cur seed run bud, H p = some (poolO s i cur seed run bud) := by
  obtain ⟨s, ns, i, cur, seed, run, bud, h⟩ := h
  exact ⟨s, i, cur, seed, run, bud, h.at_⟩
theorem Pool.same {H H' : Hp} {p : Addr} (h : Pool H p) (e : Same H H') : Pool H' p := by
  obtain ⟨s, ns, i, cur, seed, run, bud, h⟩ := h
  exact ⟨s, ns, i, cur, seed, run, bud, e _ _ h.at_, e _ _ h.sc, h.ne, h.i0, h.s0, h.s1⟩
theorem PoolIs.put {H : Hp} {p s : Addr} {ns : List Int} {i cur seed run bud : Int} (h : PoolIs H p s ns i cur seed run bud) {i' cur' seed' run' bud' : Int} (a : 0 ≤ i') (b : 0 ≤ seed') (c : seed' < 2147483647) :
    PoolIs (upd H p (poolO s i' cur' seed' run' bud')) p s ns i' cur' seed' run' bud' :=
  ⟨upd_same, by rw [upd_ne h.ne]; exact h.sc, h.ne, a, b, c⟩
/-- the drawn number is any one below the size; the pool has moved, all else stands -/
def spDraw : Sp := fun vs H Q _ => ∃ (p : Addr) (n : Int), vs = [.ref p, .int n] ∧ 0 < n ∧ n < 1073741824 ∧ Pool H p ∧ ∀ (v : Int) (o : HO), 0 ≤ v → v < n → Pool (upd H p o) p → Q (.int v) (upd H p o)
def spPool (K : PySem.W.Frag) : Sp := fun vs H Q _ => ∃ (a : Addr) (ns : List Int) (b : Int), vs = [.ref a, .int b] ∧ SqL K H a (ns.map V.int) ∧ ∀ (p : Addr) (H' : Hp), H p = none → Same H H' → Pool H' p → Q (.ref p) H'
theorem lt1000 {n : Nat} (h : Nat.ble (n + 1) 1000 = true) : n < 1000 := Nat.le_of_ble_eq_true h

/-! ### short readings -/
/-- small side conditions -/
local macro_rules | `(tactic| walk_at "sd") => `(tactic| (first
  | omega
  | assumption
  | rfl
  | decide
  | exact .inr ⟨by decide, by decide⟩
  | exact .inl ⟨by decide, by decide⟩
  | exact ⟨by first | assumption | decide | omega, by first | assumption | decide | omega⟩
  | exact ⟨by decide, by decide, by decide⟩))
/-- reads on while what is asked is plain: a slot, two ints, an item at a written place, a test's answer -/
local macro_rules | `(tactic| walk_at "rd") => `(tactic| repeat (first
  | refine ⟨_, rfl, ?_⟩
  | refine ⟨_, _, rfl, rfl, ?_⟩
  | refine ⟨_, _, _, _, rfl, rfl, (by first | assumption | exact upd_same | exact .inl (.inl upd_same)), (by rfl), ?_⟩
  | refine ⟨_, _, rfl, .inl (by first | assumption | exact .inl (.inl upd_same)), ?_⟩
  | refine ⟨_, _, rfl, .inr (by first | assumption | exact .inl (.inl upd_same)), ?_⟩
  | refine ⟨_, _, _, _, _, rfl, (by first | assumption | exact upd_same), (by assumption), (by assumption), (by rfl), ?_⟩
  | refine ⟨_, _, _, _, rfl, (by first | assumption | exact upd_same), (by assumption), (by assumption), lt1000 (by rfl), ?_⟩
  | refine .inl ⟨_, rfl, ?_⟩
  | refine And.intro (by walk_at "sd") ?_))
/-- isinstance of a value whose type is known, by a built-in class -/
local macro_rules | `(tactic| walk_at "isi") => `(tactic| first
  | refine ⟨_, _, _, _, true, rfl, .ty _, (by assumption), kit_ty (by decide +kernel), ?_⟩
  | refine ⟨_, _, _, _, false, rfl, .ty _, (by assumption), kit_ty (by decide +kernel), ?_⟩)
/-- as rd; and where a test's answer is known -/
local macro_rules | `(tactic| walk_at "go") => `(tactic| repeat (first
  | refine ⟨_, rfl, ?_⟩
  | refine ⟨_, _, rfl, rfl, ?_⟩
  | refine ⟨_, _, _, _, rfl, rfl, (by first | assumption | exact upd_same | exact .inl (.inl upd_same)), (by rfl), ?_⟩
  | refine ⟨_, _, rfl, .inl (by first | assumption | exact .inl (.inl upd_same)), ?_⟩
  | refine ⟨_, _, rfl, .inr (by first | assumption | exact .inl (.inl upd_same)), ?_⟩
  | refine ⟨_, _, _, _, _, rfl, (by first | assumption | exact upd_same), (by assumption), (by assumption), (by rfl), ?_⟩
  | refine ⟨_, _, _, _, rfl, (by first | assumption | exact upd_same), (by assumption), (by assumption), lt1000 (by rfl), ?_⟩
  | refine .inl ⟨_, rfl, ?_⟩
  | walk_at "isi"
  | refine iteT ?_
  | refine iteF ?_
  | refine And.intro (by walk_at "sd") ?_))

section
variable {P : Program} {w : World} {K : PySem.W.Frag} {mg : Str → Option Value} {base : Heap} {f : Addr} {fd : FuncData}
theorem ok__law_pool (M : MB mg) (F : FnP K "_law_pool" s__law_pool f fd) : FnOk P w K mg base CX0 1 f fd ["script", "budget"] (spPool K) := by
  refine F.ok sc__law_pool (fun vs H Q E h => ?_) (fun cdv A outer s H vs Q E hr h => ⟨_, PSs.nox (pss_one (ps_ret (pe_lst (pa_cons (pe_callTy call_list_of (by rfl) M.list (by decide +kernel) (pa_cons (pv 0) pa_nil)) (pa_cons pe_int (pa_cons pe_int (pa_cons pe_int (pa_cons pe_int (pa_cons (pv 1) pa_nil))))))))), ?_⟩)
  · obtain ⟨a, ns, b, rfl, _⟩ := h
    rfl
  · obtain ⟨a, ns, b, rfl, hS, q⟩ := h
    refine ⟨_, rfl, a, _, rfl, .inl hS, fun l hl => ?_⟩
    refine ⟨_, rfl, (by show 6 ≤ sizeLine; decide), fun p hp => ?_⟩
    have hpl : p ≠ l := fun e => by
      rw [e, upd_same] at hp
      cases hp
    have hp0 : H p = none := by rw [upd_ne hpl] at hp; exact hp
    refine q p _ hp0 ((same_upd hl).trans (same_upd hp)) ⟨l, ns, 0, 0, 1, 0, b, upd_same, ?_, hpl.symm, by decide, by decide, by decide⟩
    rw [upd_ne hpl.symm, upd_same]
/-- an item of the pool, by its written place -/
theorem pool_ix {H : Hp} {p s : Addr} {ns : List Int} {i cur seed run bud : Int} (h : PoolIs H p s ns i cur seed run bud) : SqL K H p [.ref s, .int i, .int cur, .int seed, .int run, .int bud] := .inl (.inl h.at_)
theorem ok__law_draw (M : MB mg) (F : FnP K "_law_draw" s__law_draw f fd) : FnOk P w K mg base CX0 1 f fd ["pool", "size"] spDraw := by
  refine F.ok sc__law_draw (fun vs H Q E h => ?_) (fun cdv A outer s H vs Q E hr h => ⟨_, PSs.nox (Evl.pss_cut (ps_if (PW.pt (pw_and (pt_cmpR op_le (pe_ix ix_list (pv 0) pe_int (fun _ _ => rfl)) pe_int (nomark _)) (pw_and (pt_cmpR op_le (pe_ix ix_list (pv 0) pe_int (fun _ _ => rfl)) pe_int (nomark _)) (pw_and1 (pt_cmpR op_lt (pe_ix ix_list (pv 0) pe_int (fun _ _ => rfl)) (pe_callB call_len_seq (by rfl) M.len (by decide +kernel) (pa_cons (pe_ix ix_list (pv 0) pe_int (fun _ _ => rfl)) pa_nil)) (nomark _)))))) (pss_cons (ps_set (i := 2) sc__law_draw.nd rfl (.inl rfl) (pe_ix ix_list (pe_ix ix_list (pv 0) pe_int (fun _ _ => rfl)) (pe_ix ix_list (pv 0) pe_int (fun _ _ => rfl)) (fun _ _ => rfl)))
  (pss_cons (ps_asg (pe_op op_add (pe_ix ix_list (pv 0) pe_int (fun _ _ => rfl)) pe_int) (pg_sub (pv 0) pe_int set_list))
  (pss_cons (ps_asg (pe_op op_mod (pe_callTy call_int1 (by rfl) M.int (by decide +kernel) (pa_cons (pe_op op_add (pe_op op_mul (pe_ix ix_list (pv 0) pe_int (fun _ _ => rfl)) pe_int) (pv 2)) pa_nil)) pe_int) (pg_sub (pv 0) pe_int set_list))
  (pss_cons (ps_asg pe_int (pg_sub (pv 0) pe_int set_list))
  (pss_one (ps_if (pt_cmpR op_ge (pv 2) (pe_op op_pow pe_int pe_int) (nomark _)) (pss_one (ps_asg (pv 2) (pg_sub (pv 0) pe_int set_list))) pss_nil)))))) pss_nil)
  (pss_cons (ps_if (pt_cmpR op_gt (pe_ix ix_list (pv 0) pe_int (fun _ _ => rfl)) pe_int (nomark _)) (pss_cons (ps_set (i := 3) sc__law_draw.nd rfl (.inl rfl) (pe_op op_mod (pe_callTy call_int1 (by rfl) M.int (by decide +kernel) (pa_cons (pe_ix ix_list (pv 0) pe_int (fun _ _ => rfl)) pa_nil)) (pv 1)))
  (pss_cons (ps_asg (pe_op op_fdiv (pe_ix ix_list (pv 0) pe_int (fun _ _ => rfl)) (pv 1)) (pg_sub (pv 0) pe_int set_list))
  (pss_cons (ps_asg pe_int (pg_sub (pv 0) pe_int set_list))
  (pss_one (ps_ret (pv 3)))))) pss_nil)
  (pss_cons (ps_asg (pe_op op_sub (pe_ix ix_list (pv 0) pe_int (fun _ _ => rfl)) pe_int) (pg_sub (pv 0) pe_int set_list))
  (pss_cons (ps_asg (pe_op op_mod (pe_callTy call_int1 (by rfl) M.int (by decide +kernel) (pa_cons (pe_op op_add (pe_op op_mul (pe_ix ix_list (pv 0) pe_int (fun _ _ => rfl)) pe_int) pe_int) pa_nil)) pe_int) (pg_sub (pv 0) pe_int set_list))
  (pss_one (ps_ret (pe_op op_mod (pe_op op_mod (pe_callTy call_int1 (by rfl) M.int (by decide +kernel) (pa_cons (pe_op op_add (pe_op op_mul (pe_ix ix_list (pv 0) pe_int (fun _ _ => rfl)) pe_int) pe_int) pa_nil)) pe_int) (pv 1)))))))), ?_⟩)
  · obtain ⟨p, n, rfl, _⟩ := h
    rfl
  · obtain ⟨p, n, rfl, hn, hn2, hP, q⟩ := h
    refine ⟨fun σ' H' => ∃ x2 x3 s ns i cur seed run bud, σ' = [some (.ref p), some (.int n), x2, x3] ∧ PoolIs H' p s ns i cur seed run bud ∧ (∀ o, upd H' p o = upd H p o), ?_, ?_⟩
    · obtain ⟨sc, ns, i, cur, seed, run, bud, h0⟩ := hP
      have sq := pool_ix (K := K) h0
      have sS : SqL K H sc (ns.map V.int) := .inl (.inl h0.sc)
      have ha : H p = some (.lst [.ref sc, .int i, .int cur, .int seed, .int run, .int bud]) := h0.at_
      have stay : ∃ x2 x3 s ns i cur seed run bud, [some (.ref p), some (.int n), none, none] = [some (V.ref p), some (.int n), x2, x3] ∧ PoolIs H p s ns i cur seed run bud ∧ (∀ o, upd H p o = upd H p o) := ⟨_, _, _, _, _, _, _, _, _, rfl, h0, fun _ => rfl⟩
      walk_at "rd"
      refine ite2 (fun e1 => ?_) (fun e1 => ?_)
      · walk_at "rd"
        refine ite2 (fun e2 => ?_) (fun e2 => ?_)
        · walk_at "rd"
          refine ite2 (fun e3 => ?_) (fun e3 => ?_)
          · have e4 : i < (ns.length : Int) := by
              have := of_decide_eq_true e3
              rw [List.length_map] at this
              exact this
            obtain ⟨j, rfl⟩ : ∃ j : Nat, i = j := ⟨i.toNat, by have := h0.i0; omega⟩
            have e5 : j < ns.length := by omega
            have hc : atI (ns.map V.int) (j : Int) = some (.int ns[j]) := by
              rw [atI_nat (j := j)]
              rw [List.getElem?_map, List.getElem?_eq_getElem e5]
              rfl
            generalize ns[j] = cell at hc
            have hm := Int.emod_nonneg (seed * 31 + cell) (show (2147483647 : Int) ≠ 0 by decide)
            have hm2 := Int.emod_lt_of_pos (seed * 31 + cell) (show (0 : Int) < 2147483647 by decide)
            walk_at "rd"
            refine ⟨_, _, _, _, rfl, rfl, sS, hc, ?_⟩
            walk_at "rd"
            refine ite2 (fun e6 => ?_) (fun e6 => ?_)
            · walk_at "rd"
              rw [upd_upd, upd_upd, upd_upd]
              exact ⟨some (.int cell), none, sc, ns, (j : Int) + 1, cell, (seed * 31 + cell) % 2147483647, 7, bud, rfl, h0.put (by omega) hm hm2, fun _ => upd_upd⟩
            · rw [upd_upd, upd_upd]
              exact ⟨some (.int cell), none, sc, ns, (j : Int) + 1, cur, (seed * 31 + cell) % 2147483647, 7, bud, rfl, h0.put (by omega) hm hm2, fun _ => upd_upd⟩
          · exact stay
        · exact iteF stay
      · exact iteF stay
    · rintro σ' H' ⟨x2, x3, sc, ns, i, cur, seed, run, bud, rfl, h0, hu⟩
      have sq := pool_ix (K := K) h0
      have ha : H' p = some (.lst [.ref sc, .int i, .int cur, .int seed, .int run, .int bud]) := h0.at_
      have hs0 := h0.s0
      have hs1 := h0.s1
      walk_at "rd"
      refine ite2 (fun e1 => ?_) (fun e1 => ?_)
      · walk_at "rd"
        rw [upd_upd, hu]
        refine q _ _ (Int.emod_nonneg _ (by omega)) (Int.emod_lt_of_pos _ hn) ?_
        rw [← hu]
        exact ⟨sc, ns, i, cur / n, seed, 0, bud, h0.put h0.i0 h0.s0 h0.s1⟩
      · walk_at "rd"
        rw [upd_upd, hu]
        refine q _ _ (Int.emod_nonneg _ (by omega)) (Int.emod_lt_of_pos _ hn) ?_
        rw [← hu]
        exact ⟨sc, ns, i, cur, (seed * 48271 + 12345) % 2147483647, run - 1, bud, h0.put h0.i0 (Int.emod_nonneg _ (by decide)) (Int.emod_lt_of_pos _ (by decide))⟩
end

/-! ### _law_same: equal data are the same -/
/-- data of depth below n that _law_same goes through -/
def Fits : Nat → PyData → Prop
  | 0, _ => False
  | _ + 1, .none => True
  | _ + 1, .bool _ => True
  | _ + 1, .int _ => True
  | _ + 1, .str _ => True
  | n + 1, .list ds => ds.length ≤ 100000 ∧ ∀ d ∈ ds, Fits n d
  | n + 1, .tuple ds => ds.length ≤ 100000 ∧ ∀ d ∈ ds, Fits n d
  | _ + 1, .dict _ => False
def tyN : PyData → String
  | .none => "NoneType"
  | .bool _ => "bool"
  | .int _ => "int"
  | .str _ => "str"
  | .list _ => "list"
  | .tuple _ => "tuple"
  | .dict _ => "dict"
theorem tyx_sqL {K : PySem.W.Frag} {H : Hp} {a : Addr} {xs : List V} (h : SqL K H a xs) : TyX K H (.ref a) (.type "list") := by
  rcases h with (h | ⟨o, h⟩) | ⟨o, its, n, h, hc, _⟩
  · exact .base (.lst h)
  · exact .base (.frz h)
  · exact .kList h hc
theorem tyx_sqT {K : PySem.W.Frag} {H : Hp} {a : Addr} {xs : List V} (h : SqT K H a xs) : TyX K H (.ref a) (.type "tuple") := by
  rcases h with (h | ⟨o, h⟩) | ⟨o, its, n, h, hc, _⟩
  · exact .base (.tup h)
  · exact .fTuple h
  · exact .kTuple h hc
theorem dp_tyx {K : PySem.W.Frag} {H : Hp} {x : V} {d : PyData} (h : Dp K H x d) : TyX K H x (.type (tyN d)) := by
  cases h with
  | non => exact .base .non
  | bl b => exact .base (.bl b)
  | int i => exact .base (.int i)
  | str x => exact .base (.str x)
  | lst h _ => exact tyx_sqL h
  | tup h _ => exact tyx_sqT h
theorem dpa_len {K : PySem.W.Frag} {H : Hp} : ∀ {vs : List V} {ds : List PyData}, DpAll K H vs ds → vs.length = ds.length
  | [], [], _ => rfl
  | _ :: vs, _ :: ds, .cons _ t => congrArg Nat.succ (dpa_len t)
theorem dpa_get {K : PySem.W.Frag} {H : Hp} : ∀ {vs : List V} {ds : List PyData} {i : Nat}, DpAll K H vs ds → i < ds.length → ∃ v d, vs[i]? = some v ∧ ds[i]? = some d ∧ d ∈ ds ∧ Dp K H v d
  | [], [], _, _, h => absurd h (Nat.not_lt_zero _)
  | v :: vs, d :: ds, 0, .cons h t, _ => ⟨v, d, rfl, rfl, List.mem_cons_self, h⟩
  | _ :: vs, _ :: ds, i + 1, .cons _ t, hi => by
    obtain ⟨v, d, h1, h2, h3, h4⟩ := dpa_get (i := i) t (Nat.lt_of_succ_lt_succ hi)
    exact ⟨v, d, h1, h2, List.mem_cons_of_mem _ h3, h4⟩
def spSame (K : PySem.W.Frag) (n : Nat) : Sp := fun vs H Q _ => ∃ (x y : V) (d : PyData), vs = [x, y] ∧ Dp K H x d ∧ Dp K H y d ∧ Fits n d ∧ Q (.bl true) H
section
variable {P : Program} {w : World} {K : PySem.W.Frag} {mg : Str → Option Value} {base : Heap} {f : Addr} {fd : FuncData}
theorem ok__law_same (M : MB mg) (F : FnP K "_law_same" s__law_same f fd) (gf : mg "_law_same" = some (.ref f)) : ∀ n : Nat, FnOk P w K mg base CX0 (n + 1) f fd ["actual", "due"] (spSame K n) := by
  have bf : Binds K fd ["actual", "due"] [] := F.bindsN fun _ _ _ _ _ _ us hl => match us, hl with | [_, _], _ => rfl
  intro n
  induction n with
  | zero => exact ⟨fun vs H Q E ⟨_, _, _, _, _, _, h, _⟩ => h.elim, fun A outer s H args us vs Q E _ _ _ _ ⟨_, _, _, _, _, _, h, _⟩ => h.elim⟩
  | succ n ih =>
    have C__law_same : Callee P w K mg base CX0 "_law_same" ["actual", "due"] (n + 1) (spSame K n) := ⟨f, fd, gf, F.kp, bf, ih⟩
    refine F.ok sc__law_same (fun vs H Q E h => ?_) (fun cdv A outer s H vs Q E hr h => ⟨_, PSs.nox (pss_cons (ps_if (PW.pt (pw_or (pt_val (pe_callB call_isi (by rfl) M.isinstance (by decide +kernel) (pa_cons (pv 1) (pa_cons (pe_bltn (v := .ty "tuple") (u := .type "tuple") (by rfl) M.tuple (by decide +kernel) (by rfl)) pa_nil)))) (pw_or1 (pt_val (pe_callB call_isi (by rfl) M.isinstance (by decide +kernel) (pa_cons (pv 1) (pa_cons (pe_bltn (v := .ty "list") (u := .type "list") (by rfl) M.list (by decide +kernel) (by rfl)) pa_nil))))))) (pss_cons (ps_if (PW.pt (pw_or (pt_cmpR op_ne (pe_callB call_isi (by rfl) M.isinstance (by decide +kernel) (pa_cons (pv 1) (pa_cons (pe_bltn (v := .ty "tuple") (u := .type "tuple") (by rfl) M.tuple (by decide +kernel) (by rfl)) pa_nil))) (pe_callB call_isi (by rfl) M.isinstance (by decide +kernel) (pa_cons (pv 0) (pa_cons (pe_bltn (v := .ty "tuple") (u := .type "tuple") (by rfl) M.tuple (by decide +kernel) (by rfl)) pa_nil))) (nomark _)) (pw_or1 (pt_cmpR op_ne (pe_callB call_isi (by rfl) M.isinstance (by decide +kernel) (pa_cons (pv 1) (pa_cons (pe_bltn (v := .ty "list") (u := .type "list") (by rfl) M.list (by decide +kernel) (by rfl)) pa_nil))) (pe_callB call_isi (by rfl) M.isinstance (by decide +kernel) (pa_cons (pv 0) (pa_cons (pe_bltn (v := .ty "list") (u := .type "list") (by rfl) M.list (by decide +kernel) (by rfl)) pa_nil))) (nomark _))))) (pss_one (ps_ret pe_bl)) pss_nil)
  (pss_cons (ps_if (pt_cmpR op_ne (pe_callB call_len_seq (by rfl) M.len (by decide +kernel) (pa_cons (pv 0) pa_nil)) (pe_callB call_len_seq (by rfl) M.len (by decide +kernel) (pa_cons (pv 1) pa_nil)) (nomark _)) (pss_one (ps_ret pe_bl)) pss_nil)
  (pss_cons (ps_for PassesOwn.never rfl (pi_range1 (by rfl) M.range (pa_cons (pe_callB call_len_seq (by rfl) M.len (by decide +kernel) (pa_cons (pv 1) pa_nil)) pa_nil)) (pg_name (i := 2) sc__law_same.nd rfl (.inl rfl)) (pss_one (ps_if (pt_not (pt_val (pe_callC C__law_same (hr.mono (by first | decide | exact Nat.le_refl _ | omega)) (by rfl) (pa_cons (pe_ix ix_seq (pv 0) (pv 2) (fun _ _ => rfl)) (pa_cons (pe_ix ix_seq (pv 1) (pv 2) (fun _ _ => rfl)) pa_nil))))) (pss_one (ps_ret pe_bl)) pss_nil)))
  (pss_one (ps_ret pe_bl))))) pss_nil)
  (pss_cons (ps_if (PW.pt (pw_or (pt_cmpR op_isN (pv 1) pe_non (nomark _)) (pw_or1 (pt_val (pe_callB call_isi (by rfl) M.isinstance (by decide +kernel) (pa_cons (pv 1) (pa_cons (pe_bltn (v := .ty "bool") (u := .type "bool") (by rfl) M.bool (by decide +kernel) (by rfl)) pa_nil))))))) (pss_one (ps_ret (pe_and (pe_cmpR op_eq (pe_cmpR op_isN (pv 0) pe_non (nomark _)) (pe_cmpR op_isN (pv 1) pe_non (nomark _)) (nomark _)) (pe_and (pe_or (pe_cmpR op_isN (pv 1) pe_non (nomark _)) (pe_one (pe_callB call_isi (by rfl) M.isinstance (by decide +kernel) (pa_cons (pv 0) (pa_cons (pe_bltn (v := .ty "bool") (u := .type "bool") (by rfl) M.bool (by decide +kernel) (by rfl)) pa_nil))))) (pe_one (pe_cmpR op_eq (pv 0) (pv 1) (nomark _))))))) pss_nil)
  (pss_cons (ps_if (pt_val (pe_callB call_isi (by rfl) M.isinstance (by decide +kernel) (pa_cons (pv 1) (pa_cons (pe_bltn (v := .ty "int") (u := .type "int") (by rfl) M.int (by decide +kernel) (by rfl)) pa_nil)))) (pss_one (ps_ret (pe_and (pe_callB call_isi (by rfl) M.isinstance (by decide +kernel) (pa_cons (pv 0) (pa_cons (pe_bltn (v := .ty "int") (u := .type "int") (by rfl) M.int (by decide +kernel) (by rfl)) pa_nil))) (pe_and (pe_not (pe_callB call_isi (by rfl) M.isinstance (by decide +kernel) (pa_cons (pv 0) (pa_cons (pe_bltn (v := .ty "bool") (u := .type "bool") (by rfl) M.bool (by decide +kernel) (by rfl)) pa_nil)))) (pe_one (pe_cmpR op_eq (pv 0) (pv 1) (nomark _))))))) pss_nil)
  (pss_one (ps_ret (pe_and (pe_callB call_isi (by rfl) M.isinstance (by decide +kernel) (pa_cons (pv 0) (pa_cons (pe_bltn (v := .ty "str") (u := .type "str") (by rfl) M.str (by decide +kernel) (by rfl)) pa_nil))) (pe_one (pe_cmpR op_eq (pv 0) (pv 1) (nomark _))))))))), ?_⟩)
    · obtain ⟨x, y, d, rfl, _⟩ := h
      rfl
    · obtain ⟨x, y, d, rfl, hx, hy, hf, q⟩ := h
      cases d with
      | none =>
        cases hx
        cases hy
        have tx : TyX K H .non (.type "NoneType") := .base .non
        walk_at "go"
        exact q
      | bool b =>
        cases hx
        cases hy
        have tx : TyX K H (.bl b) (.type "bool") := .base (.bl b)
        walk_at "go"
        show Q (.bl (decide _)) H
        rw [decide_eq_true rfl]
        exact q
      | int i =>
        cases hx
        cases hy
        have tx : TyX K H (.int i) (.type "int") := .base (.int i)
        walk_at "go"
        show Q (.bl (decide _)) H
        rw [decide_eq_true rfl]
        exact q
      | str z =>
        cases hx
        cases hy
        have tx : TyX K H (.str z) (.type "str") := .base (.str z)
        walk_at "go"
        show Q (.bl (decide _)) H
        rw [decide_eq_true rfl]
        exact q
      | dict _ => exact hf.elim
      | list ds =>
        cases hx with
        | @lst a xs _ hx hxs =>
        cases hy with
        | @lst b ys _ hy hys =>
        have tx := tyx_sqL hx
        have ty := tyx_sqL hy
        have lx := dpa_len hxs
        have ly := dpa_len hys
        have hz : ds.length ≤ 100000 := hf.1
        have hb : ((ys.length : Nat) : Int) < 2 ^ 62 := by omega
        walk_at "go"
        refine iteNS (by rw [lx, ly]) ?_
        walk_at "go"
        refine for_range (fun _ σ' H' => (∃ z, σ' = [some (.ref a), some (.ref b), z]) ∧ H' = H) ⟨⟨_, rfl⟩, rfl⟩ ?_ ?_
        · rintro i σ' H' hi ⟨⟨z, rfl⟩, rfl⟩
          have hi2 : i < ds.length := by omega
          obtain ⟨v, d, h1, h2, h3, h4⟩ := dpa_get hxs hi2
          obtain ⟨v', d', h1', h2', h3', h4'⟩ := dpa_get hys hi2
          have ed : d' = d := Option.some.inj (h2'.symm.trans h2)
          subst ed
          have hfi := hf.2 d' h3
          have ez : (0 : Int) + (i : Int) = (i : Int) := Int.zero_add _
          rw [ez]
          refine ⟨_, rfl, _, rfl, .inl ⟨_, _, _, _, rfl, rfl, hx, atI_nat h1, ?_⟩⟩
          refine ⟨_, rfl, _, rfl, .inl ⟨_, _, _, _, rfl, rfl, hy, atI_nat h1', ?_⟩⟩
          refine ⟨_, _, _, rfl, h4, h4', hfi, ?_⟩
          walk_at "go"
          exact ⟨⟨_, rfl⟩, rfl⟩
        · rintro σ' H' ⟨⟨z, rfl⟩, rfl⟩
          walk_at "go"
          exact q
      | tuple ds =>
        cases hx with
        | @tup a xs _ hx hxs =>
        cases hy with
        | @tup b ys _ hy hys =>
        have tx := tyx_sqT hx
        have ty := tyx_sqT hy
        have lx := dpa_len hxs
        have ly := dpa_len hys
        have hz : ds.length ≤ 100000 := hf.1
        have hb : ((ys.length : Nat) : Int) < 2 ^ 62 := by omega
        walk_at "go"
        refine iteNS (by rw [lx, ly]) ?_
        walk_at "go"
        refine for_range (fun _ σ' H' => (∃ z, σ' = [some (.ref a), some (.ref b), z]) ∧ H' = H) ⟨⟨_, rfl⟩, rfl⟩ ?_ ?_
        · rintro i σ' H' hi ⟨⟨z, rfl⟩, rfl⟩
          have hi2 : i < ds.length := by omega
          obtain ⟨v, d, h1, h2, h3, h4⟩ := dpa_get hxs hi2
          obtain ⟨v', d', h1', h2', h3', h4'⟩ := dpa_get hys hi2
          have ed : d' = d := Option.some.inj (h2'.symm.trans h2)
          subst ed
          have hfi := hf.2 d' h3
          have ez : (0 : Int) + (i : Int) = (i : Int) := Int.zero_add _
          rw [ez]
          refine ⟨_, rfl, _, rfl, .inr (.inl ⟨_, _, _, _, rfl, rfl, hx, atI_nat h1, ?_⟩)⟩
          refine ⟨_, rfl, _, rfl, .inr (.inl ⟨_, _, _, _, rfl, rfl, hy, atI_nat h1', ?_⟩)⟩
          refine ⟨_, _, _, rfl, h4, h4', hfi, ?_⟩
          walk_at "go"
          exact ⟨⟨_, rfl⟩, rfl⟩
        · rintro σ' H' ⟨⟨z, rfl⟩, rfl⟩
          walk_at "go"
          exact q
end

/-! ### an own class's methods, operators, making -/
structure MethF (P : Program) (w : World) (K : PySem.W.Frag) (mg : Str → Option Value) (base : Heap) (CX : CXT) (C : Addr) (m : Str) (k : Nat) (sp : Sp) : Prop where
  ex : ∃ g, PySem.W.findIn K (.ref C) m = some (some (.ref g)) ∧ PySem.W.isFn K (.ref g) = true ∧ FnR P w K mg base CX k g sp
/-- x op y by the class's own def, both instances of the class -/
def rOwnB (C : Addr) (sp : Sp) (E : XK) : R2 := fun x y H Q => ∃ a b dx fs dy gs, x = .ref a ∧ y = .ref b ∧ H a = some (.ins C dx fs) ∧ H b = some (.ins C dy gs) ∧ sp [x, y] H Q E
section
variable {X : Cx} {CX : CXT} {k : Nat} {C : Addr} {sp : Sp} {E : XK}
theorem op_bin {op : Operator} (hc : PySem.W.selfFirst X.K C = true) (M : MethF X.prog X.w X.K X.mg X.base CX C (PySem.dunder op.info.2) k sp) (hr : Room k X.A) (hx : Passes CX X E) : OpR X (binaryOp op) (rOwnB C sp E) := by
  intro pins s σ H x y v u Q I rx ry h
  obtain ⟨a, b, dx, fs, dy, gs, rfl, rfl, ha, hb, q⟩ := h
  obtain ⟨g, hs, hf, F⟩ := M.ex
  cases (show v = Value.ref a from rx)
  cases (show u = Value.ref b from ry)
  obtain ⟨mA, O, _⟩ := ins_get I.hok ha
  obtain ⟨od, J, _⟩ := O.look
  obtain ⟨mB, O', _⟩ := ins_get I.hok hb
  obtain ⟨od', J', _⟩ := O'.look
  obtain ⟨m, hF⟩ := I.fr
  refine PySem.W.binop_K hF I.ok.mod.kin J J'.type hc hs hf ?_
  refine wpAny_mono (wpAny_call (run_fnR (us := [.ref a, .ref b]) (vs := [.ref a, .ref b]) F hr hx I (.cons rfl (.cons rfl .nil)) q)) (fun w s' z => ?_) fun _ _ x => x
  obtain ⟨z', H', I', rz, qz⟩ := z
  exact SlX.cmpback rz ⟨z', H', I', rz, qz⟩
theorem op_eqO (hn : PySem.W.notFirst X.K C (.ref C) = true) (M : MethF X.prog X.w X.K X.mg X.base CX C "__eq__" k sp) (hr : Room k X.A) (hx : Passes CX X E) : OpR X (compareOp .Eq) (rOwnB C sp E) := by
  intro pins s σ H x y v u Q I rx ry h
  obtain ⟨a, b, dx, fs, dy, gs, rfl, rfl, ha, hb, q⟩ := h
  obtain ⟨g, hs, hf, F⟩ := M.ex
  cases (show v = Value.ref a from rx)
  cases (show u = Value.ref b from ry)
  obtain ⟨mA, O, _⟩ := ins_get I.hok ha
  obtain ⟨od, J, _⟩ := O.look
  obtain ⟨mB, O', _⟩ := ins_get I.hok hb
  obtain ⟨od', J', _⟩ := O'.look
  obtain ⟨m, hF⟩ := I.fr
  rw [show compareOp .Eq (.ref a) (.ref b) = richCompare .Eq (.ref a) (.ref b) from rfl]
  refine PySem.W.cmp_K (op := .Eq) hr.units0 hF I.ok.mod.kin J J'.type hn hs hf ?_
  refine wpAny_mono (wpAny_call (run_fnR (us := [.ref a, .ref b]) (vs := [.ref a, .ref b]) F hr hx I (.cons rfl (.cons rfl .nil)) q)) (fun w s' z => ?_) fun _ _ x => x
  obtain ⟨z', H', I', rz, qz⟩ := z
  exact SlX.cmpback rz ⟨z', H', I', rz, qz⟩
def rStrO (C : Addr) (sp : Sp) (E : XK) : List V → Hp → VK → Prop := fun xs H Q => ∃ a dx fs, xs = [.ref a] ∧ H a = some (.ins C dx fs) ∧ sp [.ref a] H (fun z H' => ∃ y, z = .str y ∧ Q z H') E
/-- str(x) by the class's own __str__ -/
theorem call_strO (M : MethF X.prog X.w X.K X.mg X.base CX C "__str__" k sp) (hr : Room (k + 2) X.A) (hx : Passes CX X E) : CallR X (.type "str") (rStrO C sp E) := by
  intro pins s σ H xs us Q I r h
  obtain ⟨a, dx, fs, rfl, ha, q⟩ := h
  obtain ⟨g, hs, hf, F⟩ := M.ex
  obtain ⟨u, rfl, ru⟩ := r.one
  cases (show u = Value.ref a from ru)
  obtain ⟨mA, O, _⟩ := ins_get I.hok ha
  obtain ⟨od, J, _⟩ := O.look
  have hr2 : Room k X.A.in1.in1 := (show Room (k + 1) X.A.in1 from Room.in1 hr).in1
  refine PySem.W.kso_call hr2.units0 I.kIn J hs hf (wpAny_mono (wpAny_call (SlX.run_at (us := [.ref a]) (ws := [.ref a]) (fun A outer s H us vs Q E hr e0 rr hsp => F A outer s H us vs Q E hr e0 rr hsp) hr2 I.env0.in1.in1 hx I (.cons rfl .nil) q)) (fun w s' z => ?_) fun _ _ x => x)
  obtain ⟨z', H', I', rz, y, ey, qz⟩ := z
  subst ey
  obtain ⟨t, e⟩ := (show ∃ t, w = Value.str y t from rz)
  cases e
  exact ⟨.str y, H', I', ⟨t, rfl⟩, qz⟩
end
/-- C(e, ..) -/
structure MakeF (P : Program) (w : World) (K : PySem.W.Frag) (mg : Str → Option Value) (base : Heap) (CX : CXT) (x : Str) (C : Addr) (ps : List Str) (dvs : List V) (k : Nat) (sp : Sp) : Prop where
  g : mg x = some (.ref C)
  ex : ∃ f fd ds, Mk K C f ∧ Vals dvs ds ∧ Binds K fd ps ds ∧ FnOk P w K mg base CX k f fd ps sp
structure MethC (P : Program) (w : World) (K : PySem.W.Frag) (mg : Str → Option Value) (base : Heap) (CX : CXT) (C : Addr) (m : Str) (ps : List Str) (k : Nat) (sp : Sp) : Prop where
  cl : Cls K C
  ex : ∃ f fd, Meth K C m f ∧ Binds K fd ps [] ∧ FnOk P w K mg base CX k f fd ps sp
section
variable {X : Cx} {CX : CXT} {k : Nat} {C : Addr} {ps : List Str} {dvs : List V} {sp : Sp} {E : XK} {x m : Str} {p pos apos : Pos} {e o : Expr} {es : List Expr} {ta : TE} {t : TA}
theorem pe_makeX (M : MakeF X.prog X.w X.K X.mg X.base CX x C ps dvs k sp) (hr : Room (k + 1) X.A) (hg : Gl X x) (hx : Passes CX X E) (ha : PA X (e :: es) t) (hdb : (x == ("__debug__" : Str)) = false := by decide)
    (he : starEach (e :: es) X.env = (false, eval e X.env) :: starEach es X.env := by rfl) (hpl : (backTo pos (starEach es X.env)).any (·.1) = false := by rfl) :
    PE X (.Call (.Name x p) (e :: es) [] pos) (tMake C sp dvs E t) := by
  obtain ⟨f, fd, ds, h1, h2, h3, h4⟩ := M.ex
  exact pe_make h1 h4 hr hg M.g h3 h2 hx ha hdb he hpl
theorem pe_methX {pl : Sem Bool} (M : MethC X.prog X.w X.K X.mg X.base CX C m ps k sp) (hr : Room k X.A) (hx : Passes CX X E) (he : PE X o ta) (ha : PA X (e :: es) t)
    (hst : starEach (e :: es) X.env = (false, eval e X.env) :: starEach es X.env := by rfl) (hpl : (backTo pos (starEach es X.env)).any (·.1) = false := by rfl)
    (ht : eval (.Call (.Attribute o m apos) (e :: es) [] pos) X.env = (do
      let ov ← eval o X.env
      standAt apos.atName
      let (f, first) ← holding [ov] (getMethod ov m pl)
      callWith pos f first (backTo pos (starEach (e :: es) X.env)) (backToKw pos (keywordEach [] X.env))) := by rfl) :
    PE X (.Call (.Attribute o m apos) (e :: es) [] pos) (tMeth C m sp [] E ta t) := by
  obtain ⟨f, fd, h1, h2, h3⟩ := M.ex
  exact pe_meth he M.cl h1 h3 hr h2 .nil hx ha hst hpl ht
end

/-! ### in a try: making, methods; what isinstance says of the caught -/
def tMakeS (C : Addr) (sp : Sp) (dvs : List V) (E : L2.St → XK) (t : TA) : TE := fun σ H Q => t σ H fun vs H1 => ∀ x dx, H1 x = none → H1 dx = none → dx ≠ x →
  sp (.ref x :: (vs ++ dvs)) (upd (upd H1 dx (.own x)) x (.ins C dx [])) (fun v H2 => v = .non ∧ Q (.ref x) H2) (E σ)
def tMethS (C : Addr) (m : Str) (sp : Sp) (E : L2.St → XK) (ta : TE) (t : TA) : TE := fun σ H Q => ta σ H fun x H1 => ∃ a dx fs, x = .ref a ∧ H1 a = some (.ins C dx fs) ∧ fs.lookup m = none ∧
  t σ H1 fun vs H2 => sp (x :: vs) H2 Q (E σ)
section
variable {X : Cx} {CX : CXT} {k : Nat} {C : Addr} {ps : List Str} {dvs : List V} {sp : Sp} {E : L2.St → XK} {x m : Str} {p pos apos : Pos} {e o : Expr} {es : List Expr} {ta : TE} {t : TA}
theorem run_makeS {f : Addr} {fd : FuncData} {ds : List Value} {pins : List (Addr × Obj)} {σ : L2.St} {H : Hp} {s : Shared} {Q : VK} {us : List Value} {vs : List V} (M : Mk X.K C f) (F : FnOk X.prog X.w X.K X.mg X.base CX k f fd ps sp) (hr : Room (k + 1) X.A)
    (hb : Binds X.K fd ps ds) (hd : Vals dvs ds) (hx : PassesAt CX X σ (E σ)) (I : Inv X pins σ H s) (r : Vals vs us)
    (h : ∀ x dx, H x = none → H dx = none → dx ≠ x → sp (.ref x :: (vs ++ dvs)) (upd (upd H dx (.own x)) x (.ins C dx [])) (fun v H2 => v = .non ∧ Q (.ref x) H2) (E σ)) :
    wpAny (model X.prog X.w) X.A (call (.ref C) us) (EP X pins σ Q) X.xe s := by
  have hq := h (s.heap.objs.size + 1) s.heap.objs.size (I.hok.fresh (Nat.le_succ _)) (I.hok.fresh (Nat.le_refl _)) (Nat.ne_of_lt (Nat.lt_succ_self _))
  have I2 := Inv.made (C := C) I
  have r2 : Vals (V.ref (s.heap.objs.size + 1) :: (vs ++ dvs)) (Value.ref (s.heap.objs.size + 1) :: (us ++ ds)) := .cons rfl (r.append hd)
  have hl : (Value.ref (s.heap.objs.size + 1) :: us ++ ds).length = ps.length := by
    have e := r2.length
    rw [F.len _ _ _ _ hq] at e
    exact e.symm
  refine wpAny_call (make_map (f := f) I.kIn M.makes M.init (beq_iff_eq.mp M.fn) (codeAny_mono (F.run _ X.stack _ _ ⟨Value.ref (s.heap.objs.size + 1) :: us, []⟩ (Value.ref (s.heap.objs.size + 1) :: (us ++ ds)) _ _ (E σ) (hr.make C us [])
    (I2.env0.make C us []) (hb _ (Value.ref (s.heap.objs.size + 1) :: us) I2.kIn hl) r2 hq) fun r s' hq' => ?_))
  cases r with
  | error e => exact hx pins _ _ e s' I2 hq'
  | ok fl =>
    cases fl with
    | ret u =>
      obtain ⟨v, H', I3, rv, ev, q3⟩ := I2.after hq'
      subst ev
      exact ⟨rv, ⟨V.ref (s.heap.objs.size + 1), H', I3, rfl, q3⟩⟩
    | next => exact False.elim hq'
    | brk => exact False.elim hq'
    | cont => exact False.elim hq'
theorem pe_makeS (M : MakeF X.prog X.w X.K X.mg X.base CX x C ps dvs k sp) (hr : Room (k + 1) X.A) (hg : Gl X x) (hx : ∀ σ, PassesAt CX X σ (E σ)) (ha : PA X (e :: es) t) (hdb : (x == ("__debug__" : Str)) = false := by decide)
    (he : starEach (e :: es) X.env = (false, eval e X.env) :: starEach es X.env := by rfl) (hpl : (backTo pos (starEach es X.env)).any (·.1) = false := by rfl) :
    PE X (.Call (.Name x p) (e :: es) [] pos) (tMakeS C sp dvs E t) := by
  obtain ⟨f, fd, ds, h1, h2, h3, h4⟩ := M.ex
  refine ⟨fun pins s σ H Q I h => ?_⟩
  refine wpAny_Call_Name_kw (ld_glob I hg M.g ?_ hdb)
  refine PySem.W.callWith_K (h₀ := X.base) I.ok.mod.kin h1.kp (thn (ha.run pos pins s σ H _ I h) fun us s1 ⟨vs, H1, I1, r, q⟩ => ⟨I1.kIn, ?_⟩) he hpl
  exact run_makeS h1 h4 hr h3 h2 (hx σ) I1 r q
theorem pe_methS {pl : Sem Bool} (M : MethC X.prog X.w X.K X.mg X.base CX C m ps k sp) (hr : Room k X.A) (hx : ∀ σ, PassesAt CX X σ (E σ)) (he : PE X o ta) (ha : PA X (e :: es) t)
    (hst : starEach (e :: es) X.env = (false, eval e X.env) :: starEach es X.env := by rfl) (hpl : (backTo pos (starEach es X.env)).any (·.1) = false := by rfl)
    (ht : eval (.Call (.Attribute o m apos) (e :: es) [] pos) X.env = (do
      let ov ← eval o X.env
      standAt apos.atName
      let (f, first) ← holding [ov] (getMethod ov m pl)
      callWith pos f first (backTo pos (starEach (e :: es) X.env)) (backToKw pos (keywordEach [] X.env))) := by rfl) :
    PE X (.Call (.Attribute o m apos) (e :: es) [] pos) (tMethS C m sp E ta t) := by
  obtain ⟨f, fd, hm, hb, F⟩ := M.ex
  refine ⟨fun pins s σ H Q I h => ?_⟩
  refine PySem.W.methodCall_KW (pl := pl) (thn (he.run pins s σ H _ I h) fun u s1 ⟨x, H1, I1, rx, a, dx, fs, ex, ea, l, q⟩ => ?_) ht
  subst ex
  obtain rfl : u = Value.ref a := rx
  refine getmeth_ok I1 ea M.cl hm l ?_
  refine PySem.W.callWith_K (first := [.ref a]) (h₀ := X.base) I.ok.mod.kin hm.kp (thn (ha.run pos pins s1 σ H1 _ I1 q) fun us s2 ⟨vs, H2, I2, r, q2⟩ => ⟨I2.kIn, ?_⟩) hst hpl
  exact run_fnS (E := E) (us := .ref a :: us) (vs := .ref a :: vs) F hr hb (hx σ) I2 (.cons rfl r) q2
end
section
variable {X : Cx} {a : Addr} {oe : Obj} {cls : Value} {d : Option Addr} {pn : List (Addr × Obj)}
def rIsE2 (K : PySem.W.Frag) (cls : Value) (d : Option Addr) (a : Addr) : List V → Hp → VK → Prop := fun xs H Q => ∃ (D : Addr), cls = .ref D ∧ d = none ∧ ExcC K D ∧ rIsE K D a xs H Q
theorem call_isE2 (hz : Zc cls d oe) (hf : ∃ vs, oe.data = .fields vs) : CallR (X.suite a ((a, oe) :: pn)) (.builtin "isinstance") (rIsE2 X.K cls d a) := by
  intro pins s σ H xs us Q I r h
  obtain ⟨D, rfl, rfl, C, q⟩ := h
  exact call_isE C hz hf pins s σ H xs us Q I r q
def rIsET (K : PySem.W.Frag) (cls : Value) (d : Option Addr) (a : Addr) : List V → Hp → VK → Prop := fun xs H Q => ∃ (D tp : Addr) (cs : List V) (ws : List Value) (b : Bool), cls = .ref D ∧ d = none ∧ ExcC K D ∧ xs = [.ref a, .ref tp] ∧ H tp = some (.tup cs) ∧ Paired ClsV cs ws ∧
  PySem.W.kitAny K (.ref D) ws = some b ∧ Q (.bl b) H
theorem call_isET (hz : Zc cls d oe) (hf : ∃ vs, oe.data = .fields vs) : CallR (X.suite a ((a, oe) :: pn)) (.builtin "isinstance") (rIsET X.K cls d a) := by
  intro pins s σ H xs us Q I r h
  obtain ⟨D, tp, cs, ws, b, rfl, rfl, C, rfl, hT, k, e, q⟩ := h
  obtain ⟨u1, u2, rfl, r1, r2⟩ := vals2 r
  cases (show u1 = Value.ref a from r1)
  cases (show u2 = Value.ref tp from r2)
  obtain ⟨hget, _⟩ := I.pin (a, oe) (List.mem_append.mpr (.inl List.mem_cons_self))
  obtain ⟨vs, hv⟩ := hf
  have J : PySem.W.InstAt s.heap a oe D none := by
    obtain ⟨oc, od, oda, osl⟩ := oe
    obtain ⟨h1, h2⟩ := hz
    dsimp only at h1 h2 hv
    subst h1 h2 hv
    exact ⟨hget, rfl, rfl, trivial⟩
  obtain ⟨_, its, rv, o, h1, h2, n, h3⟩ := (show ObjOk X.prog X.w H s.heap tp (.tup cs) from I.hok tp _ hT)
  have e3 := ClsV.all k rv
  subst e3
  obtain ⟨oc, od, dt, sl⟩ := o
  simp only at h2 h3
  subst h2 h3
  exact PySem.W.kia_tup (PySem.W.handS_kitx_exc C.hg C.hk C.hs C.hd C.ha C.hn C.ht C.hm) I.kIn J h1 e (fun z => nomatch z) fun tk => ⟨.bl b, H, I.kept (t' := tk) fun _ _ z => z, rfl, q⟩
end

/-! ### fractions: the mathematics -/
set_option exponentiation.threshold 4000
def gcdI (n d : Int) : Int := ((Nat.gcd n.natAbs d.natAbs : Nat) : Int)
/-- in lowest terms -/
def nrm (n d : Int) : Int × Int := (n / gcdI n d, d / gcdI n d)
theorem gcdI_pos {n d : Int} (h : 0 < d) : 0 < gcdI n d := by
  have : 0 < Nat.gcd n.natAbs d.natAbs := Nat.gcd_pos_of_pos_right _ (by omega)
  unfold gcdI
  omega
theorem gcdI_le {n d : Int} (h : 0 < d) : (gcdI n d).natAbs ≤ d.natAbs := by
  have := Nat.gcd_le_right n.natAbs (show 0 < d.natAbs by omega)
  unfold gcdI
  omega
theorem nrm_den_pos {n d : Int} (h : 0 < d) : 0 < (nrm n d).2 := by
  have hg := gcdI_pos (n := n) h
  have hd : gcdI n d ∣ d := by
    unfold gcdI
    exact Int.ofNat_dvd_left.mpr (Nat.gcd_dvd_right _ _)
  exact Int.ediv_pos_of_pos_of_dvd h (by omega) hd
theorem natAbs_ediv_le (n g : Int) : (n / g).natAbs ≤ n.natAbs := Int.natAbs_ediv_le_natAbs n g
/-- small enough for every product -/
def Sm (i : Int) : Prop := i.natAbs < 2 ^ 900
theorem sm_nrm {n d : Int} (h1 : Sm n) (h2 : Sm d) : Sm (nrm n d).1 ∧ Sm (nrm n d).2 :=
  ⟨Nat.lt_of_le_of_lt (natAbs_ediv_le _ _) h1, Nat.lt_of_le_of_lt (natAbs_ediv_le _ _) h2⟩
theorem Sm.neg {i : Int} (h : Sm i) : Sm (-i) := by
  unfold Sm
  rw [Int.natAbs_neg]
  exact h
theorem mulw_of {i j : Int} (ha : Sm i) (hb : Sm j) : CMulW i j := wide_mul ha hb (by decide) (by decide) (by decide)
theorem sm_mul1 {i j : Int} (ha : Sm i) (hb : Sm j) : (i * j).natAbs < 2 ^ 1800 := wide_lt ha hb
theorem sm_mul {i j : Int} (ha : Sm i) (hb : Sm j) : (i * j).natAbs < 2 ^ 2000 := Nat.lt_of_lt_of_le (sm_mul1 ha hb) (Nat.pow_le_pow_right (by decide) (by decide))
theorem sm_lift {i : Int} (h : Sm i) : i.natAbs < 2 ^ 2000 := Nat.lt_of_lt_of_le h (Nat.pow_le_pow_right (by decide) (by decide))

/-! ### Ratio -/
/-- what the head says of the class Ratio, at C, and of BadRatio, at B -/
structure RatT (K : PySem.W.Frag) (mg : Str → Option Value) (C B : Addr) : Prop where
  cl : Cls K C
  nN : NoAttr K C "num"
  nD : NoAttr K C "den"
  gC : mg "Ratio" = some (.ref C)
  sf : PySem.W.selfFirst K C = true
  nf : PySem.W.notFirst K C (.ref C) = true
  ha : PySem.W.findIn K (.ref C) "__class__" = some (some (.builtin "object.__class__"))
  hn : PySem.W.specialIn K (.builtin "object.__class__") "__get__" = some (some (.builtin "getset_descriptor.__get__"))
  ht : PySem.W.takesIn K (.builtin "object.__class__") = some true
  hm : PySem.W.mroIn K C (.type "object") = some true
  gB : mg "BadRatio" = some (.ref B)
  xB : PySem.W.excIn K B He.veBase "ValueError.__new__" = true
  kB : PySem.W.keepIn K (.ref B) = true
  bB : PySem.W.subIn K (.ref B) (.type "BaseException") = some true
  tB : PySem.W.typeIn K (.ref B) = some (.type "type")
  gg : mg "gcd" = some (.builtin "math.gcd")
/-- at a stands the fraction q -/
def RatAt (C : Addr) (H : Hp) (a : Addr) (q : Int × Int) : Prop := ∃ dx, H a = some (.ins C dx [("num", .int q.1), ("den", .int q.2)])
theorem RatAt.same {C : Addr} {H H' : Hp} {a : Addr} {q : Int × Int} (h : RatAt C H a q) (e : Same H H') : RatAt C H' a q := by
  obtain ⟨dx, h⟩ := h
  exact ⟨dx, e _ _ h⟩
def spInit (C B : Addr) : Sp := fun vs H Q E => ∃ (x dx : Addr) (n d : Int), vs = [.ref x, .int n, .int d] ∧ H x = some (.ins C dx []) ∧ d.natAbs < 2 ^ 2000 ∧ (d ≤ 0 → E (.ref B) none H) ∧
  (0 < d → Q .non (upd H x (.ins C dx [("num", .int (nrm n d).1), ("den", .int (nrm n d).2)])))
/-- a new fraction, all else as it was -/
def RetR (C : Addr) (q : Int × Int) (H : Hp) (Q : VK) : Prop := ∀ (x : Addr) (H' : Hp), H x = none → Same H H' → RatAt C H' x q → Q (.ref x) H'
def spBin (C : Addr) (f : Int × Int → Int × Int → Int × Int) : Sp := fun vs H Q _ => ∃ (a b : Addr) (p q : Int × Int), vs = [.ref a, .ref b] ∧ RatAt C H a p ∧ RatAt C H b q ∧ Sm p.1 ∧ Sm p.2 ∧ Sm q.1 ∧ Sm q.2 ∧ 0 < p.2 ∧ 0 < q.2 ∧ RetR C (f p q) H Q
def rAdd (p q : Int × Int) : Int × Int := nrm (p.1 * q.2 + q.1 * p.2) (p.2 * q.2)
def rSub (p q : Int × Int) : Int × Int := nrm (p.1 * q.2 - q.1 * p.2) (p.2 * q.2)
def rMul (p q : Int × Int) : Int × Int := nrm (p.1 * q.1) (p.2 * q.2)
def spEq (C : Addr) : Sp := fun vs H Q _ => ∃ (a b : Addr) (p q : Int × Int), vs = [.ref a, .ref b] ∧ RatAt C H a p ∧ RatAt C H b q ∧ Q (.bl (decide (p = q))) H
def ratText (q : Int × Int) : Str := if q.2 = 1 then Str.ofString (toString q.1) else Str.ofString (toString q.1) ++ Str.ofString "/" ++ Str.ofString (toString q.2)
theorem sm_log {i : Int} (h : Sm i) : i.natAbs.log2 < 1920 := Nat.lt_of_lt_of_le (PySem.Flt.log2_lt_of (by decide) h) (by decide)
def spStr (C : Addr) : Sp := fun vs H Q _ => ∃ (a : Addr) (p : Int × Int), vs = [.ref a] ∧ RatAt C H a p ∧ Sm p.1 ∧ Sm p.2 ∧ Q (.str (ratText p)) H
def spLess (C : Addr) : Sp := fun vs H Q _ => ∃ (a b : Addr) (p q : Int × Int), vs = [.ref a, .ref b] ∧ RatAt C H a p ∧ RatAt C H b q ∧ Sm p.1 ∧ Sm p.2 ∧ Sm q.1 ∧ Sm q.2 ∧ Q (.bl (decide (p.1 * q.2 < q.1 * p.2))) H
def rOver (p q : Int × Int) : Int × Int := if q.1 < 0 then nrm (-p.1 * q.2) (-q.1 * p.2) else nrm (p.1 * q.2) (q.1 * p.2)
def spOver (C B : Addr) : Sp := fun vs H Q E => ∃ (a b : Addr) (p q : Int × Int), vs = [.ref a, .ref b] ∧ RatAt C H a p ∧ RatAt C H b q ∧ Sm p.1 ∧ Sm p.2 ∧ Sm q.1 ∧ Sm q.2 ∧ 0 < p.2 ∧ 0 < q.2 ∧
  (q.1 = 0 → E (.ref B) none H) ∧ (q.1 ≠ 0 → RetR C (rOver p q) H Q)
theorem one_of_new {C : Addr} {H : Hp} {x dx : Addr} {fs : List (Str × V)} (hx : H x = none) (hd : H dx = none) (hne : dx ≠ x) : Same H (upd (upd H dx (.own x)) x (.ins C dx fs)) := by
  refine (same_upd hd).trans (same_upd ?_)
  rw [upd_ne hne.symm]
  exact hx
/-- behind __init__ -/
theorem ret_made {C : Addr} {H : Hp} {Q : VK} {q : Int × Int} (k : RetR C q H Q) {x dx : Addr} (hx : H x = none) (hd : H dx = none) (hne : dx ≠ x) :
    Q (.ref x) (upd (upd (upd H dx (.own x)) x (.ins C dx [])) x (.ins C dx [("num", .int q.1), ("den", .int q.2)])) := by
  rw [upd_upd]
  exact k x _ hx (one_of_new hx hd hne) ⟨dx, upd_same⟩
abbrev FnM (K : PySem.W.Frag) (x qual : Str) (st : Stmt) (dvs : List V) (f : Addr) (fd : FuncData) : Prop := FunD K x qual (defArgs st) (defBody st) (defScope st) dvs [] f fd
section
variable {P : Program} {w : World} {K : PySem.W.Frag} {mg : Str → Option Value} {base : Heap} {f : Addr} {fd : FuncData} {C B : Addr}
theorem ok_Ratio_init (T : RatT K mg C B) (F : FnM K "__init__" "Ratio.__init__" s_Ratio___init__ [.int 1] f fd) : FnOk P w K mg base (L2.CX P w) 1 f fd ["self", "num", "den"] (spInit C B) := by
  refine F.ok sc_Ratio___init__ (fun vs H Q E h => ?_) (fun cdv A outer s H vs Q E hr h => ⟨_, (pss_cons (ps_if (pt_cmpR op_le (pv 2) pe_int (nomark _)) (pss_one (ps_raise rfl (takes_of rfl rfl rfl rfl) (pmk_own PySem.F.excBase_ValueError T.xB T.gB T.kB (raises_own T.bB T.tB) rfl))) pss_nil)
  (pss_cons (ps_set (i := 3) sc_Ratio___init__.nd rfl (.inl rfl) (pe_callBfun cr_gcd (by rfl) T.gg (pa_cons (pv 1) (pa_cons (pv 2) pa_nil))))
  (pss_cons (ps_fld (pv 0) (pe_op op_fdivW (pv 1) (pv 3)) rfl)
  (pss_one (ps_fld (pv 0) (pe_op op_fdivW (pv 2) (pv 3)) rfl))))), ?_⟩)
  · obtain ⟨x, dx, n, d, rfl, _⟩ := h
    rfl
  · obtain ⟨x, dx, n, d, rfl, hx, hb, qe, q⟩ := h
    have cl := T.cl
    have nN := T.nN
    have nD := T.nD
    walk_at "rd"
    refine ite2 (fun e => ?_) (fun e => ?_)
    · exact qe (of_decide_eq_true e)
    · have hd : 0 < d := by
        have := of_decide_eq_false (Bool.eq_false_iff.mpr e)
        omega
      have hw : ∀ i : Int, CDivW i ((Nat.gcd n.natAbs d.natAbs : Nat) : Int) := fun i => wide_div (b := 2000) (gcdI_pos hd) (Nat.lt_of_le_of_lt (gcdI_le hd) hb) (by decide) (by decide)
      have hw1 := hw n
      have hw2 := hw d
      walk_at "rd"
      refine ⟨_, _, rfl, ?_⟩
      walk_at "rd"
      have r := q hd
      rw [upd_upd]
      exact r
theorem ok_Ratio_add (T : RatT K mg C B) (F : FnM K "__add__" "Ratio.__add__" s_Ratio___add__ [] f fd) (MR : MakeF P w K mg base (L2.CX P w) "Ratio" C ["self", "num", "den"] [] 1 (spInit C B)) :
    FnOk P w K mg base CX0 3 f fd ["self", "other"] (spBin C rAdd) := by
  refine F.ok sc_Ratio___add__ (fun vs H Q E h => ?_) (fun cdv A outer s H vs Q E hr h => ⟨_, PSs.nox (pss_one (ps_ret (pe_makeX MR (hr.mono (by decide)) (by rfl) passL (pa_cons (pe_op op_add (pe_op op_mulW (pe_fld (pv 0) rfl) (pe_fld (pv 1) rfl)) (pe_op op_mulW (pe_fld (pv 1) rfl) (pe_fld (pv 0) rfl))) (pa_cons (pe_op op_mulW (pe_fld (pv 0) rfl) (pe_fld (pv 1) rfl)) pa_nil))))), ?_⟩)
  · obtain ⟨x, y, p, q, rfl, _⟩ := h
    rfl
  · obtain ⟨a, b, ⟨n, d⟩, ⟨n', d'⟩, rfl, ⟨dx, ha⟩, ⟨dy, hb⟩, s1, s2, s3, s4, p1, p2, k⟩ := h
    have cl := T.cl
    have nN := T.nN
    have nD := T.nD
    have m1 := mulw_of s1 s4
    have m2 := mulw_of s3 s2
    have m3 := mulw_of s2 s4
    have pd : 0 < d * d' := Int.mul_pos p1 p2
    walk_at "rd"
    exact fun x dx hx hdx hne => ⟨x, dx, _, _, rfl, upd_same, sm_mul s2 s4, fun e => absurd pd (Int.not_lt.mpr e), fun _ => ⟨rfl, ret_made k hx hdx hne⟩⟩
theorem ok_Ratio_sub (T : RatT K mg C B) (F : FnM K "__sub__" "Ratio.__sub__" s_Ratio___sub__ [] f fd) (MR : MakeF P w K mg base (L2.CX P w) "Ratio" C ["self", "num", "den"] [] 1 (spInit C B)) :
    FnOk P w K mg base CX0 3 f fd ["self", "other"] (spBin C rSub) := by
  refine F.ok sc_Ratio___sub__ (fun vs H Q E h => ?_) (fun cdv A outer s H vs Q E hr h => ⟨_, PSs.nox (pss_one (ps_ret (pe_makeX MR (hr.mono (by decide)) (by rfl) passL (pa_cons (pe_op op_sub (pe_op op_mulW (pe_fld (pv 0) rfl) (pe_fld (pv 1) rfl)) (pe_op op_mulW (pe_fld (pv 1) rfl) (pe_fld (pv 0) rfl))) (pa_cons (pe_op op_mulW (pe_fld (pv 0) rfl) (pe_fld (pv 1) rfl)) pa_nil))))), ?_⟩)
  · obtain ⟨x, y, p, q, rfl, _⟩ := h
    rfl
  · obtain ⟨a, b, ⟨n, d⟩, ⟨n', d'⟩, rfl, ⟨dx, ha⟩, ⟨dy, hb⟩, s1, s2, s3, s4, p1, p2, k⟩ := h
    have cl := T.cl
    have nN := T.nN
    have nD := T.nD
    have m1 := mulw_of s1 s4
    have m2 := mulw_of s3 s2
    have m3 := mulw_of s2 s4
    have pd : 0 < d * d' := Int.mul_pos p1 p2
    walk_at "rd"
    exact fun x dx hx hdx hne => ⟨x, dx, _, _, rfl, upd_same, sm_mul s2 s4, fun e => absurd pd (Int.not_lt.mpr e), fun _ => ⟨rfl, ret_made k hx hdx hne⟩⟩
theorem ok_Ratio_mul (T : RatT K mg C B) (F : FnM K "__mul__" "Ratio.__mul__" s_Ratio___mul__ [] f fd) (MR : MakeF P w K mg base (L2.CX P w) "Ratio" C ["self", "num", "den"] [] 1 (spInit C B)) :
    FnOk P w K mg base CX0 3 f fd ["self", "other"] (spBin C rMul) := by
  refine F.ok sc_Ratio___mul__ (fun vs H Q E h => ?_) (fun cdv A outer s H vs Q E hr h => ⟨_, PSs.nox (pss_one (ps_ret (pe_makeX MR (hr.mono (by decide)) (by rfl) passL (pa_cons (pe_op op_mulW (pe_fld (pv 0) rfl) (pe_fld (pv 1) rfl)) (pa_cons (pe_op op_mulW (pe_fld (pv 0) rfl) (pe_fld (pv 1) rfl)) pa_nil))))), ?_⟩)
  · obtain ⟨x, y, p, q, rfl, _⟩ := h
    rfl
  · obtain ⟨a, b, ⟨n, d⟩, ⟨n', d'⟩, rfl, ⟨dx, ha⟩, ⟨dy, hb⟩, s1, s2, s3, s4, p1, p2, k⟩ := h
    have cl := T.cl
    have nN := T.nN
    have nD := T.nD
    have m1 := mulw_of s1 s3
    have m3 := mulw_of s2 s4
    have pd : 0 < d * d' := Int.mul_pos p1 p2
    walk_at "rd"
    exact fun x dx hx hdx hne => ⟨x, dx, _, _, rfl, upd_same, sm_mul s2 s4, fun e => absurd pd (Int.not_lt.mpr e), fun _ => ⟨rfl, ret_made k hx hdx hne⟩⟩

theorem ok_Ratio_eq (T : RatT K mg C B) (M : MB mg) (F : FnM K "__eq__" "Ratio.__eq__" s_Ratio___eq__ [] f fd) : FnOk P w K mg base CX0 1 f fd ["self", "other"] (spEq C) := by
  have g_Ratio := T.gC
  have r_Ratio : RelV (.ref C) (.ref C) := rfl
  refine F.ok sc_Ratio___eq__ (fun vs H Q E h => ?_) (fun cdv A outer s H vs Q E hr h => ⟨_, PSs.nox (pss_one (ps_ret (pe_and (pe_callB call_isi (by rfl) M.isinstance (by decide +kernel) (pa_cons (pv 1) (pa_cons (pe_glob (by rfl) g_Ratio r_Ratio) pa_nil))) (pe_and (pe_cmpR op_eq (pe_fld (pv 0) rfl) (pe_fld (pv 1) rfl) (nomark _)) (pe_one (pe_cmpR op_eq (pe_fld (pv 0) rfl) (pe_fld (pv 1) rfl) (nomark _))))))), ?_⟩)
  · obtain ⟨x, y, p, q, rfl, _⟩ := h
    rfl
  · obtain ⟨a, b, ⟨n, d⟩, ⟨n', d'⟩, rfl, ⟨dx, ha⟩, ⟨dy, hb⟩, q⟩ := h
    have cl := T.cl
    have nN := T.nN
    have nD := T.nD
    have ty : TyX K H (.ref b) (.ref C) := .base (.ins hb T.cl T.ha T.hn T.ht T.hm)
    have hk : PySem.W.kitOne K (.ref C) (.ref C) = some true := by
      unfold PySem.W.kitOne
      rw [if_pos (beq_self_eq_true _)]
    walk_at "rd"
    refine ⟨_, _, _, _, _, rfl, .own _, ty, hk, ?_⟩
    walk_at "rd"
    by_cases e1 : n = n'
    · subst e1
      refine ite2 (fun _ => ?_) (fun z => absurd (decide_eq_true rfl) z)
      walk_at "rd"
      by_cases e2 : d = d'
      · subst e2
        rw [decide_eq_true rfl] at q
        show Q (.bl (decide (V.int d = V.int d))) H
        rw [decide_eq_true rfl]
        exact q
      · rw [decide_eq_false (fun z => e2 (Prod.mk.inj z).2)] at q
        show Q (.bl (decide (V.int d = V.int d'))) H
        rw [decide_eq_false (fun z => e2 (V.int.inj z))]
        exact q
    · refine ite2 (fun z => absurd (V.int.inj (of_decide_eq_true z)) e1) (fun _ => ?_)
      rw [decide_eq_false (fun z => e1 (Prod.mk.inj z).1)] at q
      exact q
theorem ok_Ratio_str (T : RatT K mg C B) (M : MB mg) (F : FnM K "__str__" "Ratio.__str__" s_Ratio___str__ [] f fd) : FnOk P w K mg base CX0 1 f fd ["self"] (spStr C) := by
  refine F.ok sc_Ratio___str__ (fun vs H Q E h => ?_) (fun cdv A outer s H vs Q E hr h => ⟨_, PSs.nox (pss_cons (ps_if (pt_cmpR op_eq (pe_fld (pv 0) rfl) pe_int (nomark _)) (pss_one (ps_ret (pe_callTy call_str_int (by rfl) M.str (by decide +kernel) (pa_cons (pe_fld (pv 0) rfl) pa_nil)))) pss_nil)
  (pss_one (ps_ret (pe_joined (PJ.cons (pe_fmt (pe_fld (pv 0) rfl)) (PJ.cons pe_str (PJ.cons (pe_fmt (pe_fld (pv 0) rfl)) PJ.nil))))))), ?_⟩)
  · obtain ⟨x, p, rfl, _⟩ := h
    rfl
  · obtain ⟨a, ⟨n, d⟩, rfl, ⟨dx, ha⟩, s1, s2, q⟩ := h
    have cl := T.cl
    have nN := T.nN
    have nD := T.nD
    have l1 := sm_log s1
    have l2 := sm_log s2
    have z1 : (Str.ofString (toString n)).length ≤ 1921 := int_text_len_1921 l1
    have z2 : (Str.ofString (toString d)).length ≤ 1921 := int_text_len_1921 l2
    unfold ratText at q
    dsimp only at q l1 l2
    walk_at "rd"
    refine ite2 (fun e => ?_) (fun e => ?_)
    · rw [if_pos (V.int.inj (of_decide_eq_true e))] at q
      walk_at "rd"
      exact q
    · rw [if_neg (fun z => e (decide_eq_true (congrArg V.int z)))] at q
      have zs : (Str.ofString "/").length = 1 := by rfl
      have zl := sizeLine_eq
      have k1 : (Str.empty ++ Str.ofString (toString n)).length ≤ sizeLine := by
        rw [Str.empty_append]
        omega
      have k2 : (Str.empty ++ Str.ofString (toString n) ++ Str.ofString "/").length ≤ sizeLine := by
        rw [Str.empty_append, Str.length_append]
        omega
      have k3 : (Str.empty ++ Str.ofString (toString n) ++ Str.ofString "/" ++ Str.ofString (toString d)).length ≤ sizeLine := by
        rw [Str.empty_append, Str.length_append, Str.length_append]
        omega
      walk_at "rd"
      refine .inr ⟨_, rfl, l1, ?_⟩
      refine ⟨_, rfl, k1, ?_⟩
      refine ⟨_, rfl, k2, ?_⟩
      walk_at "rd"
      refine .inr ⟨_, rfl, l2, ?_⟩
      refine ⟨_, rfl, k3, ?_⟩
      rw [← Str.empty_append (Str.ofString (toString n))] at q
      exact q
theorem ok_Ratio_less (T : RatT K mg C B) (F : FnM K "less" "Ratio.less" s_Ratio_less [] f fd) : FnOk P w K mg base CX0 1 f fd ["self", "other"] (spLess C) := by
  refine F.ok sc_Ratio_less (fun vs H Q E h => ?_) (fun cdv A outer s H vs Q E hr h => ⟨_, PSs.nox (pss_one (ps_ret (pe_cmpR op_lt (pe_op op_mulW (pe_fld (pv 0) rfl) (pe_fld (pv 1) rfl)) (pe_op op_mulW (pe_fld (pv 1) rfl) (pe_fld (pv 0) rfl)) (nomark _)))), ?_⟩)
  · obtain ⟨x, y, p, q, rfl, _⟩ := h
    rfl
  · obtain ⟨a, b, ⟨n, d⟩, ⟨n', d'⟩, rfl, ⟨dx, ha⟩, ⟨dy, hb⟩, s1, s2, s3, s4, q⟩ := h
    have cl := T.cl
    have nN := T.nN
    have nD := T.nD
    have m1 := mulw_of s1 s4
    have m2 := mulw_of s3 s2
    walk_at "rd"
    exact q
theorem ok_Ratio_over (T : RatT K mg C B) (F : FnM K "over" "Ratio.over" s_Ratio_over [] f fd) (MR : MakeF P w K mg base (L2.CX P w) "Ratio" C ["self", "num", "den"] [] 1 (spInit C B)) :
    FnOk P w K mg base (L2.CX P w) 3 f fd ["self", "other"] (spOver C B) := by
  refine F.ok sc_Ratio_over (fun vs H Q E h => ?_) (fun cdv A outer s H vs Q E hr h => ⟨_, (pss_cons (ps_if (pt_cmpR op_eq (pe_fld (pv 1) rfl) pe_int (nomark _)) (pss_one (ps_raise rfl (takes_of rfl rfl rfl rfl) (pmk_own PySem.F.excBase_ValueError T.xB T.gB T.kB (raises_own T.bB T.tB) rfl))) pss_nil)
  (pss_cons (ps_if (pt_cmpR op_lt (pe_fld (pv 1) rfl) pe_int (nomark _)) (pss_one (ps_ret (pe_makeX MR (hr.mono (by decide)) (by rfl) passL (pa_cons (pe_op op_mulW (pe_un un_neg (pe_fld (pv 0) rfl)) (pe_fld (pv 1) rfl)) (pa_cons (pe_op op_mulW (pe_un un_neg (pe_fld (pv 1) rfl)) (pe_fld (pv 0) rfl)) pa_nil))))) pss_nil)
  (pss_one (ps_ret (pe_makeX MR (hr.mono (by decide)) (by rfl) passL (pa_cons (pe_op op_mulW (pe_fld (pv 0) rfl) (pe_fld (pv 1) rfl)) (pa_cons (pe_op op_mulW (pe_fld (pv 1) rfl) (pe_fld (pv 0) rfl)) pa_nil))))))), ?_⟩)
  · obtain ⟨x, y, p, q, rfl, _⟩ := h
    rfl
  · obtain ⟨a, b, ⟨n, d⟩, ⟨n', d'⟩, rfl, ⟨dx, ha⟩, ⟨dy, hb⟩, s1, s2, s3, s4, p1, p2, ke, k⟩ := h
    have cl := T.cl
    have nN := T.nN
    have nD := T.nD
    have m1 := mulw_of s1 s4
    have m2 := mulw_of s3 s2
    have m3 := mulw_of s1.neg s4
    have m4 := mulw_of s3.neg s2
    dsimp only at s1 s2 s3 s4 p1 p2 ke k
    walk_at "rd"
    refine ite2 (fun e => ?_) (fun e => ?_)
    · exact ke (V.int.inj (of_decide_eq_true e))
    · have h0 : n' ≠ 0 := fun z => e (decide_eq_true (congrArg V.int z))
      have kk := k h0
      unfold rOver at kk
      walk_at "rd"
      refine ite2 (fun e2 => ?_) (fun e2 => ?_)
      · have e3 : n' < 0 := of_decide_eq_true e2
        have pd : 0 < -n' * d := Int.mul_pos (by omega) p1
        rw [if_pos e3] at kk
        walk_at "rd"
        exact fun x dx hx hdx hne => ⟨x, dx, _, _, rfl, upd_same, sm_mul s3.neg s2, fun e => absurd pd (Int.not_lt.mpr e), fun _ => ⟨rfl, ret_made kk hx hdx hne⟩⟩
      · have e3 : ¬ n' < 0 := of_decide_eq_false (Bool.eq_false_iff.mpr e2)
        have pd : 0 < n' * d := Int.mul_pos (by omega) p1
        rw [if_neg e3] at kk
        walk_at "rd"
        exact fun x dx hx hdx hne => ⟨x, dx, _, _, rfl, upd_same, sm_mul s3 s2, fun e => absurd pd (Int.not_lt.mpr e), fun _ => ⟨rfl, ret_made kk hx hdx hne⟩⟩
end

/-! ### Euclid's row: the mathematics -/
set_option exponentiation.threshold 4000
theorem abs_eq (n : Int) : (if n < 0 then -n else n) = (n.natAbs : Int) := by
  split <;> omega
def EuInv (N g i a b : Nat) : Prop := Nat.gcd a b = g ∧ 0 < a + b ∧ ((i = 0 ∧ a * b ≤ N) ∨ (0 < i ∧ b < a ∧ a * b * 2 ^ (i - 1) ≤ N))
theorem eu_step {N g i a b : Nat} (h : EuInv N g i a b) (hb : b ≠ 0) : EuInv N g (i + 1) b (a % b) := by
  obtain ⟨h1, h0, h2⟩ := h
  have hr : a % b < b := Nat.mod_lt _ (by omega)
  refine ⟨?_, by omega, .inr ⟨by omega, hr, ?_⟩⟩
  · rw [← h1, Nat.gcd_comm a b, Nat.gcd_rec b a, Nat.gcd_comm]
  · rw [Nat.add_sub_cancel]
    rcases h2 with ⟨rfl, h2⟩ | ⟨hi, hlt, h2⟩
    · rw [Nat.pow_zero, Nat.mul_one]
      refine Nat.le_trans ?_ h2
      rw [Nat.mul_comm a b]
      exact Nat.mul_le_mul_left _ (Nat.mod_le _ _)
    · have e : a = b * (a / b) + a % b := (Nat.div_add_mod a b).symm
      have hq : 0 < a / b := Nat.div_pos (by omega) (by omega)
      have hm : b ≤ b * (a / b) := Nat.le_mul_of_pos_right _ hq
      have h3 : 2 * (a % b) ≤ a := by omega
      obtain ⟨j, rfl⟩ : ∃ j, i = j + 1 := ⟨i - 1, by omega⟩
      rw [Nat.add_sub_cancel] at h2
      refine Nat.le_trans ?_ h2
      rw [Nat.pow_succ]
      have h4 : b * (2 * (a % b)) ≤ b * a := Nat.mul_le_mul_left _ h3
      have h5 : b * (a % b) * (2 ^ j * 2) = b * (2 * (a % b)) * 2 ^ j := by
        rw [Nat.mul_comm (2 ^ j) 2, ← Nat.mul_assoc, Nat.mul_assoc b (a % b) 2, Nat.mul_comm (a % b) 2]
      rw [h5, Nat.mul_comm a b]
      exact Nat.mul_le_mul_right _ h4
theorem eu_end {N g a b : Nat} (h : EuInv N g 4000 a b) (hN : N < 2 ^ 3980) : b = 0 := by
  obtain ⟨_, _, h | ⟨_, hlt, h⟩⟩ := h
  · omega
  · rcases Nat.eq_zero_or_pos b with hb | hb
    · exact hb
    · have h1 : 1 ≤ a * b := Nat.mul_pos (by omega) hb
      have h2 : 2 ^ (4000 - 1) ≤ a * b * 2 ^ (4000 - 1) := Nat.le_mul_of_pos_left _ h1
      have h3 : (2 : Nat) ^ 3980 ≤ 2 ^ (4000 - 1) := Nat.pow_le_pow_right (by decide) (by decide)
      exact absurd (Nat.le_trans h3 (Nat.le_trans h2 h)) (Nat.not_le.mpr hN)

/-! ### the law's own defs -/
def RetT (q : Int × Int) (H : Hp) (Q : VK) : Prop := ∀ (p : Addr) (H' : Hp), H p = none → Same H H' → H' p = some (.tup [.int q.1, .int q.2]) → Q (.ref p) H'
def spLless : Sp := fun vs H Q _ => ∃ n d : Int, vs = [.int n, .int d] ∧ 0 < d ∧ n.natAbs < 2 ^ 1990 ∧ d.natAbs < 2 ^ 1990 ∧ RetT (nrm n d) H Q
section
variable {P : Program} {w : World} {K : PySem.W.Frag} {mg : Str → Option Value} {base : Heap} {f : Addr} {fd : FuncData} {C B : Addr}
theorem ok__law_less (M : MB mg) (F : FnP K "_law_less" s__law_less f fd) : FnOk P w K mg base CX0 1 f fd ["num", "den"] spLless := by
  refine F.ok sc__law_less (fun vs H Q E h => ?_) (fun cdv A outer s H vs Q E hr h => ⟨_, PSs.nox (pss_cons (ps_set (i := 2) sc__law_less.nd rfl (.inl rfl) (pe_callB call_abs (by rfl) M.abs (by decide +kernel) (pa_cons (pv 0) pa_nil)))
  (pss_cons (ps_set (i := 3) sc__law_less.nd rfl (.inl rfl) (pv 1))
  (pss_cons (ps_for PassesOwn.never rfl (pi_range1 (by rfl) M.range (pa_cons pe_int pa_nil)) (pg_name (i := 4) sc__law_less.nd rfl (.inl rfl)) (pss_cons (ps_if (pt_cmpR op_eq (pv 3) pe_int (nomark _)) (pss_one ps_break) pss_nil)
  (pss_one (ps_par (i := 2) (j := 3) (by rfl) sc__law_less.nd rfl rfl (by decide) rfl rfl (pa_cons (pv 3) (pa_cons (pe_op op_mod (pe_callTy call_int1 (by rfl) M.int (by decide +kernel) (pa_cons (pv 2) pa_nil)) (pv 3)) pa_nil)) (by rfl)))))
  (pss_one (ps_ret (pe_tup (pa_cons (pe_op op_fdivW (pv 0) (pv 2)) (pa_cons (pe_op op_fdivW (pv 1) (pv 2)) pa_nil)))))))), ?_⟩)
  · obtain ⟨x, y, rfl, _⟩ := h
    rfl
  · obtain ⟨n, d, rfl, hd, bn, bd, q⟩ := h
    have gp := gcdI_pos (n := n) hd
    have gl := gcdI_le (n := n) hd
    have w1 : CDivW n (gcdI n d) := wide_div (b := 1990) gp (Nat.lt_of_le_of_lt gl bd) (by decide) (by decide)
    have w2 : CDivW d (gcdI n d) := wide_div (b := 1990) gp (Nat.lt_of_le_of_lt gl bd) (by decide) (by decide)
    have hN : n.natAbs * d.natAbs < 2 ^ 3980 := by
      have := Nat.mul_lt_mul'' bn bd
      rw [← Nat.pow_add] at this
      exact this
    refine ⟨_, rfl, _, rfl, ?_⟩
    rw [abs_eq]
    walk_at "rd"
    refine for_range (n := 4000) (fun i σ' H' => (∃ (a b : Nat) (z : Option V), σ' = [some (.int n), some (.int d), some (.int a), some (.int b), z] ∧ EuInv (n.natAbs * d.natAbs) (Nat.gcd n.natAbs d.natAbs) i a b) ∧ H' = H)
      ⟨⟨n.natAbs, d.natAbs, none, ?_, rfl, by omega, .inl ⟨rfl, Nat.le_refl _⟩⟩, rfl⟩ ?_ ?_
    · have ed : d = (d.natAbs : Int) := by omega
      show [some (V.int n), some (V.int d), some (V.int (n.natAbs : Int)), some (V.int d), none] = [some (V.int n), some (V.int d), some (V.int (n.natAbs : Int)), some (V.int (d.natAbs : Int)), none]
      rw [← ed]
    · rintro i σ' H' hi ⟨⟨a, b, z, rfl, hE⟩, rfl⟩
      walk_at "rd"
      refine ite2 (fun e => ?_) (fun e => ?_)
      · have hb : b = 0 := by
          have := V.int.inj (of_decide_eq_true e)
          omega
        subst hb
        have ea : (a : Int) = gcdI n d := by
          have := hE.1
          rw [Nat.gcd_zero_right] at this
          rw [this]
          rfl
        rw [ea]
        walk_at "rd"
        exact ⟨(by show 2 ≤ sizeLine; decide), fun p hp => q p _ hp (same_upd hp) upd_same⟩
      · have hb : b ≠ 0 := fun z => e (decide_eq_true (by rw [z]; rfl))
        have hb2 : (0 : Int) < (b : Int) := by omega
        walk_at "rd"
        exact ⟨_, _, rfl, ⟨b, a % b, some (.int (0 + (i : Int))), rfl, eu_step hE hb⟩, rfl⟩
    · rintro σ' H' ⟨⟨a, b, z, rfl, hE⟩, rfl⟩
      have hb : b = 0 := eu_end hE hN
      subst hb
      have ea : (a : Int) = gcdI n d := by
        have := hE.1
        rw [Nat.gcd_zero_right] at this
        rw [this]
        rfl
      rw [ea]
      walk_at "rd"
      exact ⟨(by show 2 ≤ sizeLine; decide), fun p hp => q p _ hp (same_upd hp) upd_same⟩
theorem sm_mul3 {i j : Int} (ha : Sm i) (hb : Sm j) : (i * j).natAbs < 2 ^ 1990 := Nat.lt_of_lt_of_le (sm_mul1 ha hb) (Nat.pow_le_pow_right (by decide) (by decide))
theorem sm_2000 {i : Int} (h : Sm i) : i.natAbs < 2 ^ 2000 := Nat.lt_of_lt_of_le h (Nat.pow_le_pow_right (by decide) (by decide))
theorem sm_sum {x y : Int} (ha : x.natAbs < 2 ^ 1800) (hb : y.natAbs < 2 ^ 1800) : (x + y).natAbs < 2 ^ 1990 := by
  have h1 : (2 : Nat) ^ 1800 + 2 ^ 1800 = 2 ^ 1801 := by rw [Nat.pow_succ, Nat.mul_two]
  have h2 : (2 : Nat) ^ 1801 ≤ 2 ^ 1990 := Nat.pow_le_pow_right (by decide) (by decide)
  omega
theorem sm_dif {x y : Int} (ha : x.natAbs < 2 ^ 1800) (hb : y.natAbs < 2 ^ 1800) : (x - y).natAbs < 2 ^ 1990 := by
  have h1 : (2 : Nat) ^ 1800 + 2 ^ 1800 = 2 ^ 1801 := by rw [Nat.pow_succ, Nat.mul_two]
  have h2 : (2 : Nat) ^ 1801 ≤ 2 ^ 1990 := Nat.pow_le_pow_right (by decide) (by decide)
  omega
/-- a pair of ints, at a -/
abbrev TupAt (K : PySem.W.Frag) (H : Hp) (a : Addr) (q : Int × Int) : Prop := SqT K H a [.int q.1, .int q.2]
def spBinT (K : PySem.W.Frag) (g : Int × Int → Int × Int → Int × Int) : Sp := fun vs H Q _ => ∃ (a b : Addr) (p q : Int × Int), vs = [.ref a, .ref b] ∧ TupAt K H a p ∧ TupAt K H b q ∧ Sm p.1 ∧ Sm p.2 ∧ Sm q.1 ∧ Sm q.2 ∧ 0 < p.2 ∧ 0 < q.2 ∧ RetT (g p q) H Q
def spBelow (K : PySem.W.Frag) : Sp := fun vs H Q _ => ∃ (a b : Addr) (p q : Int × Int), vs = [.ref a, .ref b] ∧ TupAt K H a p ∧ TupAt K H b q ∧ Sm p.1 ∧ Sm p.2 ∧ Sm q.1 ∧ Sm q.2 ∧ Q (.bl (decide (p.1 * q.2 < q.1 * p.2))) H
theorem ok__law_plus (F : FnP K "_law_plus" s__law_plus f fd) (C__law_less : Callee P w K mg base CX0 "_law_less" ["num", "den"] 1 spLless) : FnOk P w K mg base CX0 2 f fd ["one", "other"] (spBinT K rAdd) := by
  refine F.ok sc__law_plus (fun vs H Q E h => ?_) (fun cdv A outer s H vs Q E hr h => ⟨_, PSs.nox (pss_one (ps_ret (pe_callC C__law_less (hr.mono (by first | decide | exact Nat.le_refl _ | omega)) (by rfl) (pa_cons (pe_op op_add (pe_op op_mulW (pe_ix ix_tup (pv 0) pe_int (fun _ _ => rfl)) (pe_ix ix_tup (pv 1) pe_int (fun _ _ => rfl))) (pe_op op_mulW (pe_ix ix_tup (pv 1) pe_int (fun _ _ => rfl)) (pe_ix ix_tup (pv 0) pe_int (fun _ _ => rfl)))) (pa_cons (pe_op op_mulW (pe_ix ix_tup (pv 0) pe_int (fun _ _ => rfl)) (pe_ix ix_tup (pv 1) pe_int (fun _ _ => rfl))) pa_nil))))), ?_⟩)
  · obtain ⟨x, y, p, q, rfl, _⟩ := h
    rfl
  · obtain ⟨a, b, ⟨n, d⟩, ⟨n', d'⟩, rfl, ha, hb, s1, s2, s3, s4, p1, p2, k⟩ := h
    dsimp only at ha hb s1 s2 s3 s4 p1 p2
    have m1 := mulw_of s1 s4
    have m2 := mulw_of s3 s2
    have m3 := mulw_of s2 s4
    have pd : 0 < d * d' := Int.mul_pos p1 p2
    walk_at "rd"
    exact ⟨_, _, rfl, pd, sm_sum (sm_mul1 s1 s4) (sm_mul1 s3 s2), sm_mul3 s2 s4, k⟩
theorem ok__law_minus (F : FnP K "_law_minus" s__law_minus f fd) (C__law_less : Callee P w K mg base CX0 "_law_less" ["num", "den"] 1 spLless) : FnOk P w K mg base CX0 2 f fd ["one", "other"] (spBinT K rSub) := by
  refine F.ok sc__law_minus (fun vs H Q E h => ?_) (fun cdv A outer s H vs Q E hr h => ⟨_, PSs.nox (pss_one (ps_ret (pe_callC C__law_less (hr.mono (by first | decide | exact Nat.le_refl _ | omega)) (by rfl) (pa_cons (pe_op op_sub (pe_op op_mulW (pe_ix ix_tup (pv 0) pe_int (fun _ _ => rfl)) (pe_ix ix_tup (pv 1) pe_int (fun _ _ => rfl))) (pe_op op_mulW (pe_ix ix_tup (pv 1) pe_int (fun _ _ => rfl)) (pe_ix ix_tup (pv 0) pe_int (fun _ _ => rfl)))) (pa_cons (pe_op op_mulW (pe_ix ix_tup (pv 0) pe_int (fun _ _ => rfl)) (pe_ix ix_tup (pv 1) pe_int (fun _ _ => rfl))) pa_nil))))), ?_⟩)
  · obtain ⟨x, y, p, q, rfl, _⟩ := h
    rfl
  · obtain ⟨a, b, ⟨n, d⟩, ⟨n', d'⟩, rfl, ha, hb, s1, s2, s3, s4, p1, p2, k⟩ := h
    dsimp only at ha hb s1 s2 s3 s4 p1 p2
    have m1 := mulw_of s1 s4
    have m2 := mulw_of s3 s2
    have m3 := mulw_of s2 s4
    have pd : 0 < d * d' := Int.mul_pos p1 p2
    walk_at "rd"
    exact ⟨_, _, rfl, pd, sm_dif (sm_mul1 s1 s4) (sm_mul1 s3 s2), sm_mul3 s2 s4, k⟩
theorem ok__law_times (F : FnP K "_law_times" s__law_times f fd) (C__law_less : Callee P w K mg base CX0 "_law_less" ["num", "den"] 1 spLless) : FnOk P w K mg base CX0 2 f fd ["one", "other"] (spBinT K rMul) := by
  refine F.ok sc__law_times (fun vs H Q E h => ?_) (fun cdv A outer s H vs Q E hr h => ⟨_, PSs.nox (pss_one (ps_ret (pe_callC C__law_less (hr.mono (by first | decide | exact Nat.le_refl _ | omega)) (by rfl) (pa_cons (pe_op op_mulW (pe_ix ix_tup (pv 0) pe_int (fun _ _ => rfl)) (pe_ix ix_tup (pv 1) pe_int (fun _ _ => rfl))) (pa_cons (pe_op op_mulW (pe_ix ix_tup (pv 0) pe_int (fun _ _ => rfl)) (pe_ix ix_tup (pv 1) pe_int (fun _ _ => rfl))) pa_nil))))), ?_⟩)
  · obtain ⟨x, y, p, q, rfl, _⟩ := h
    rfl
  · obtain ⟨a, b, ⟨n, d⟩, ⟨n', d'⟩, rfl, ha, hb, s1, s2, s3, s4, p1, p2, k⟩ := h
    dsimp only at ha hb s1 s2 s3 s4 p1 p2
    have m1 := mulw_of s1 s3
    have m3 := mulw_of s2 s4
    have pd : 0 < d * d' := Int.mul_pos p1 p2
    walk_at "rd"
    exact ⟨_, _, rfl, pd, sm_mul3 s1 s3, sm_mul3 s2 s4, k⟩
theorem ok__law_below (F : FnP K "_law_below" s__law_below f fd) : FnOk P w K mg base CX0 1 f fd ["one", "other"] (spBelow K) := by
  refine F.ok sc__law_below (fun vs H Q E h => ?_) (fun cdv A outer s H vs Q E hr h => ⟨_, PSs.nox (pss_one (ps_ret (pe_cmpR op_lt (pe_op op_mulW (pe_ix ix_tup (pv 0) pe_int (fun _ _ => rfl)) (pe_ix ix_tup (pv 1) pe_int (fun _ _ => rfl))) (pe_op op_mulW (pe_ix ix_tup (pv 1) pe_int (fun _ _ => rfl)) (pe_ix ix_tup (pv 0) pe_int (fun _ _ => rfl))) (nomark _)))), ?_⟩)
  · obtain ⟨x, y, p, q, rfl, _⟩ := h
    rfl
  · obtain ⟨a, b, ⟨n, d⟩, ⟨n', d'⟩, rfl, ha, hb, s1, s2, s3, s4, k⟩ := h
    dsimp only at ha hb s1 s2 s3 s4
    have m1 := mulw_of s1 s4
    have m2 := mulw_of s3 s2
    walk_at "rd"
    exact k
/-- the fraction is the pair -/
def spIs (K : PySem.W.Frag) (C : Addr) : Sp := fun vs H Q _ => ∃ (a t : Addr) (q : Int × Int), vs = [.ref a, .ref t] ∧ RatAt C H a q ∧ TupAt K H t q ∧ ∀ H', Same H H' → Q (.bl true) H'
theorem ok__law_is (T : RatT K mg C B) (M : MB mg) (F : FnP K "_law_is" s__law_is f fd) (C__law_same : Callee P w K mg base CX0 "_law_same" ["actual", "due"] 3 (spSame K 2)) : FnOk P w K mg base CX0 4 f fd ["ratio", "due"] (spIs K C) := by
  have g_Ratio := T.gC
  have r_Ratio : RelV (.ref C) (.ref C) := rfl
  refine F.ok sc__law_is (fun vs H Q E h => ?_) (fun cdv A outer s H vs Q E hr h => ⟨_, PSs.nox (pss_one (ps_ret (pe_and (pe_callB call_isi (by rfl) M.isinstance (by decide +kernel) (pa_cons (pv 0) (pa_cons (pe_glob (by rfl) g_Ratio r_Ratio) pa_nil))) (pe_one (pe_callC C__law_same (hr.mono (by first | decide | exact Nat.le_refl _ | omega)) (by rfl) (pa_cons (pe_lst (pa_cons (pe_fld (pv 0) rfl) (pa_cons (pe_fld (pv 0) rfl) pa_nil))) (pa_cons (pe_callTy call_list_of (by rfl) M.list (by decide +kernel) (pa_cons (pv 1) pa_nil)) pa_nil))))))), ?_⟩)
  · obtain ⟨x, y, q, rfl, _⟩ := h
    rfl
  · obtain ⟨a, t, ⟨n, d⟩, rfl, ⟨dx, ha⟩, ht, k⟩ := h
    dsimp only at ha ht
    have cl := T.cl
    have nN := T.nN
    have nD := T.nD
    have ty : TyX K H (.ref a) (.ref C) := .base (.ins ha T.cl T.ha T.hn T.ht T.hm)
    have hk : PySem.W.kitOne K (.ref C) (.ref C) = some true := by
      unfold PySem.W.kitOne
      rw [if_pos (beq_self_eq_true _)]
    walk_at "rd"
    refine ⟨_, _, _, _, _, rfl, .own _, ty, hk, ?_⟩
    walk_at "rd"
    refine ⟨(by show 2 ≤ sizeLine; decide), fun l hl => ?_⟩
    have t1 := same_seqT (same_upd (o := .lst [.int n, .int d]) hl) ht
    refine ⟨_, rfl, t, _, rfl, .inr t1, fun l2 hl2 => ?_⟩
    have hne : l ≠ l2 := fun e => by
      rw [← e, upd_same] at hl2
      cases hl2
    refine ⟨_, _, .list [.int n, .int d], rfl, .lst (.inl (.inl (by rw [upd_ne hne, upd_same]))) (.cons (.int n) (.cons (.int d) .nil)), .lst (.inl (.inl upd_same)) (.cons (.int n) (.cons (.int d) .nil)), ⟨(by show 2 ≤ 100000; decide), ?_⟩, ?_⟩
    · intro z hz
      rcases List.mem_cons.mp hz with rfl | hz
      · exact True.intro
      · rcases List.mem_cons.mp hz with rfl | hz
        · exact True.intro
        · cases hz
    · exact k _ ((same_upd hl).trans (same_upd hl2))
/-- what the head says of the errors -/
structure ErrT (K : PySem.W.Frag) (mg : Str → Option Value) (B : Addr) (G P1 P2 P3 P4 : Addr) : Prop where
  gG : mg "GroupError" = some (.ref G)
  g1 : mg "BadPaper" = some (.ref P1)
  g2 : mg "BadTable" = some (.ref P2)
  g3 : mg "BadText" = some (.ref P3)
  g4 : mg "NoPayments" = some (.ref P4)
  ex : PySem.W.exmOne K (.ref B) (.ref G) = some true
  xc : ExcC K B
  k1 : PySem.W.kitOne K (.ref B) (.ref B) = some true
  k2 : PySem.W.kitOne K (.ref B) (.type "ValueError") = some true
  k3 : PySem.W.kitAny K (.ref B) [.ref P1, .ref P2, .ref P3, .ref P4] = some false
def spRefused (K : PySem.W.Frag) : Sp := fun vs H Q _ => ∃ (a : Addr) (y : V) (p : Int × Int), vs = [.ref a, y] ∧ TupAt K H a p ∧ Sm p.1 ∧ Sm p.2 ∧
  ((y = .non ∧ p.2 ≤ 0) ∨ (∃ (b : Addr) (q : Int × Int), y = .ref b ∧ TupAt K H b q ∧ Sm q.1 ∧ Sm q.2 ∧ 0 < p.2 ∧ 0 < q.2 ∧ q.1 = 0)) ∧ ∀ H', Same H H' → Q (.bl true) H'
theorem ok__law_refused {G P1 P2 P3 P4 : Addr} (T : RatT K mg C B) (U : ErrT K mg B G P1 P2 P3 P4) (M : MB mg) (F : FnP K "_law_refused" s__law_refused f fd) (MR : MakeF P w K mg base (L2.CX P w) "Ratio" C ["self", "num", "den"] [] 1 (spInit C B))
    (MO : MethC P w K mg base (L2.CX P w) C "over" ["self", "other"] 3 (spOver C B)) : FnOk P w K mg base CX0 4 f fd ["one", "other"] (spRefused K) := by
  have gG := U.gG
  have g_BadRatio := T.gB
  have r_BadRatio : RelV (.ref B) (.ref B) := rfl
  have g_BadPaper := U.g1
  have r_BadPaper : RelV (.ref P1) (.ref P1) := rfl
  have g_BadTable := U.g2
  have r_BadTable : RelV (.ref P2) (.ref P2) := rfl
  have g_BadText := U.g3
  have r_BadText : RelV (.ref P3) (.ref P3) := rfl
  have g_NoPayments := U.g4
  have r_NoPayments : RelV (.ref P4) (.ref P4) := rfl
  refine F.ok sc__law_refused (fun vs H Q E h => ?_) (fun cdv A outer s H vs Q E hr h => ⟨_, PSs.nox (pss_cons (ps_try_as (i := 2) (Wout := fun _ _ _ _ => False) rfl rfl sc__law_refused.nd rfl rfl ⟨rfl, by decide, .inl gG⟩ takes0 (fun W pn xe tk _ => (pss_one (ps_if (pt_cmpR op_isN (pv 1) pe_non (nomark _)) (pss_one (ps_expr (pe_makeS MR (hr.mono (by decide)) (by rfl) (fun σ => passAt tk σ) (pa_cons (pe_ix (show IxR _ (rIxT K) from ix_tup) (pv 0) pe_int (fun _ _ => rfl)) (pa_cons (pe_ix (show IxR _ (rIxT K) from ix_tup) (pv 0) pe_int (fun _ _ => rfl)) pa_nil))))) (pss_one (ps_expr (pe_methS MO (hr.mono (by decide)) (fun σ => passAt tk σ) (pe_makeS MR (hr.mono (by decide)) (by rfl) (fun σ => passAt tk σ) (pa_cons (pe_ix (show IxR _ (rIxT K) from ix_tup) (pv 0) pe_int (fun _ _ => rfl)) (pa_cons (pe_ix (show IxR _ (rIxT K) from ix_tup) (pv 0) pe_int (fun _ _ => rfl)) pa_nil))) (pa_cons (pe_makeS MR (hr.mono (by decide)) (by rfl) (fun σ => passAt tk σ) (pa_cons (pe_ix (show IxR _ (rIxT K) from ix_tup) (pv 1) pe_int (fun _ _ => rfl)) (pa_cons (pe_ix (show IxR _ (rIxT K) from ix_tup) (pv 1) pe_int (fun _ _ => rfl)) pa_nil))) pa_nil))))))) (fun a oe cls d pn hz hf => (pss_cons (ps_set (i := 3) sc__law_refused.nd rfl (.inl rfl) (pe_and (pe_callB (call_isE2 hz hf) (by rfl) M.isinstance (by decide +kernel) (pa_cons (pv 2) (pa_cons (pe_glob (by rfl) g_BadRatio r_BadRatio) pa_nil))) (pe_one (pe_callB (call_isE2 hz hf) (by rfl) M.isinstance (by decide +kernel) (pa_cons (pv 2) (pa_cons (pe_bltn (v := .ty "ValueError") (u := .type "ValueError") (by rfl) M.ValueError (by decide +kernel) (by rfl)) pa_nil))))))
  (pss_one (ps_ret (pe_and (pv 3) (pe_one (pe_not (pe_callB (call_isET hz hf) (by rfl) M.isinstance (by decide +kernel) (pa_cons (pv 2) (pa_cons (pe_tup (pa_cons (pe_glob (by rfl) g_BadPaper r_BadPaper) (pa_cons (pe_glob (by rfl) g_BadTable r_BadTable) (pa_cons (pe_glob (by rfl) g_BadText r_BadText) (pa_cons (pe_glob (by rfl) g_NoPayments r_NoPayments) pa_nil))))) pa_nil)))))))))))
  (pss_one (ps_ret pe_bl))), ?_⟩)
  · obtain ⟨a, y, p, rfl, _⟩ := h
    rfl
  · obtain ⟨a, y, ⟨n, d⟩, rfl, ha, s1, s2, h, k⟩ := h
    dsimp only at ha s1 s2
    rcases h with ⟨rfl, hd⟩ | ⟨b, ⟨n', d'⟩, rfl, hb, s3, s4, p1, p2, h0⟩
    · have hd2 : ¬ 0 < d := by dsimp only at hd; omega
      walk_at "go"
      refine fun x dx hx hdx hne => ⟨x, dx, n, d, rfl, upd_same, sm_2000 s2, fun _ => ⟨true, U.ex, fun _ e he => ?_, fun q => Bool.noConfusion q⟩, fun z => absurd z hd2⟩
      have hs := one_of_new (C := C) (fs := []) hx hdx hne
      generalize upd (upd H dx (.own x)) x (.ins C dx []) = H1 at hs he ⊢
      refine ⟨_, rfl, B, rfl, rfl, U.xc, .ref B, .ref B, true, rfl, fun u r => r, U.k1, ?_⟩
      refine ⟨_, rfl, ?_⟩
      refine ⟨_, rfl, B, rfl, rfl, U.xc, .ty "ValueError", .type "ValueError", true, rfl, fun u r => r, U.k2, ?_⟩
      walk_at "go"
      refine ⟨(by show 4 ≤ sizeLine; decide), fun tp htp => ⟨B, tp, _, _, false, rfl, rfl, U.xc, rfl, upd_same, .cons (.own _) (.cons (.own _) (.cons (.own _) (.cons (.own _) .nil))), U.k3, ?_⟩⟩
      walk_at "go"
      exact k _ (hs.trans (same_upd htp))
    · dsimp only at hb s3 s4 p1 p2 h0
      walk_at "go"
      refine fun x dx hx hdx hne => ⟨x, dx, n, d, rfl, upd_same, sm_2000 s2, fun z => absurd p1 (Int.not_lt.mpr z), fun _ => ⟨rfl, ?_⟩⟩
      rw [upd_upd]
      have hs1 := one_of_new (C := C) (fs := [("num", .int (nrm n d).1), ("den", .int (nrm n d).2)]) hx hdx hne
      have r1 : (upd (upd H dx (.own x)) x (.ins C dx [("num", .int (nrm n d).1), ("den", .int (nrm n d).2)])) x = some (.ins C dx [("num", .int (nrm n d).1), ("den", .int (nrm n d).2)]) := upd_same
      generalize upd (upd H dx (.own x)) x (.ins C dx [("num", .int (nrm n d).1), ("den", .int (nrm n d).2)]) = H1 at hs1 r1 ⊢
      have hb1 := same_seqT hs1 hb
      refine ⟨x, dx, _, rfl, r1, rfl, ?_⟩
      walk_at "go"
      refine fun x2 dx2 hx2 hdx2 hne2 => ⟨x2, dx2, n', d', rfl, upd_same, sm_2000 s4, fun z => absurd p2 (Int.not_lt.mpr z), fun _ => ⟨rfl, ?_⟩⟩
      rw [upd_upd]
      have hs2 := one_of_new (C := C) (fs := [("num", .int (nrm n' d').1), ("den", .int (nrm n' d').2)]) hx2 hdx2 hne2
      have r2 : (upd (upd H1 dx2 (.own x2)) x2 (.ins C dx2 [("num", .int (nrm n' d').1), ("den", .int (nrm n' d').2)])) x2 = some (.ins C dx2 [("num", .int (nrm n' d').1), ("den", .int (nrm n' d').2)]) := upd_same
      generalize upd (upd H1 dx2 (.own x2)) x2 (.ins C dx2 [("num", .int (nrm n' d').1), ("den", .int (nrm n' d').2)]) = H2 at hs2 r2 ⊢
      have hz : (nrm n' d').1 = 0 := by
        unfold nrm
        rw [h0]
        exact Int.zero_ediv _
      have q1 := sm_nrm s1 s2
      have q2 := sm_nrm s3 s4
      have hs := hs1.trans hs2
      refine ⟨x, x2, nrm n d, nrm n' d', rfl, ⟨dx, hs2 _ _ r1⟩, ⟨dx2, r2⟩, q1.1, q1.2, q2.1, q2.2, nrm_den_pos p1, nrm_den_pos p2, fun _ => ⟨true, U.ex, fun _ e he => ?_, fun q => Bool.noConfusion q⟩, fun z => absurd hz z⟩
      refine ⟨_, rfl, B, rfl, rfl, U.xc, .ref B, .ref B, true, rfl, fun u r => r, U.k1, ?_⟩
      refine ⟨_, rfl, ?_⟩
      refine ⟨_, rfl, B, rfl, rfl, U.xc, .ty "ValueError", .type "ValueError", true, rfl, fun u r => r, U.k2, ?_⟩
      walk_at "go"
      refine ⟨(by show 4 ≤ sizeLine; decide), fun tp htp => ⟨B, tp, _, _, false, rfl, rfl, U.xc, rfl, upd_same, .cons (.own _) (.cons (.own _) (.cons (.own _) (.cons (.own _) .nil))), U.k3, ?_⟩⟩
      walk_at "go"
      exact k _ (hs.trans (same_upd htp))
end

/-! ### _law_pair, law -/
theorem fresh_of {p t : Addr} {H H' : Hp} (k : Kp p H H') (hP : Pool H' p) (h : H' t = none) : H t = none := by
  cases e : H t with
  | none => rfl
  | some o =>
    by_cases q : t = p
    · obtain ⟨s, i, cur, seed, run, bud, z⟩ := hP.there
      rw [q, z] at h
      cases h
    · rw [k t o q e] at h
      cases h
theorem pool_ne {p t : Addr} {H : Hp} (hP : Pool H p) (h : H t = none) : t ≠ p := fun q => by
  obtain ⟨s, i, cur, seed, run, bud, z⟩ := hP.there
  rw [q, z] at h
  cases h
theorem three {v : Int} (h0 : 0 ≤ v) (h1 : v < 3) : v = 0 ∨ v = 1 ∨ v = 2 := by omega
theorem two {v : Int} (h0 : 0 ≤ v) (h1 : v < 2) : v = 0 ∨ v = 1 := by omega
theorem sm_small {n : Int} (h1 : -(2 ^ 64) < n) (h2 : n < 2 ^ 64) : Sm n := by
  have : n.natAbs < 2 ^ 64 := by omega
  exact Nat.lt_of_lt_of_le this (Nat.pow_le_pow_right (by decide) (by decide))
theorem fib_le {i : Nat} {two : Int} (h : two ≤ 2 ^ (i + 1)) (hi : i ≤ 283) : two ≤ 2 ^ 284 := by
  have h1 : (2 : Nat) ^ (i + 1) ≤ 2 ^ 284 := Nat.pow_le_pow_right (by decide) (by omega)
  have h2 : ((2 ^ (i + 1) : Nat) : Int) ≤ ((2 ^ 284 : Nat) : Int) := Int.ofNat_le.mpr h1
  have h3 : ((2 ^ (i + 1) : Nat) : Int) = 2 ^ (i + 1) := by norm_cast
  have h4 : ((2 ^ 284 : Nat) : Int) = 2 ^ 284 := by norm_cast
  omega
theorem sm_fib {x : Int} (h1 : -(8 * 2 ^ 284) ≤ x) (h2 : x ≤ 8 * 2 ^ 284) : Sm x := by
  have h3 : (8 : Nat) * 2 ^ 284 < 2 ^ 900 := by decide
  unfold Sm
  omega
def spPair : Sp := fun vs H Q _ => ∃ p : Addr, vs = [.ref p] ∧ Pool H p ∧ ∀ (t : Addr) (H' : Hp) (n d : Int), Kp p H H' → Pool H' p → H t = none → H' t = some (.tup [.int n, .int d]) → 0 < d → Sm n → Sm d → Q (.ref t) H'
section
variable {P : Program} {w : World} {K : PySem.W.Frag} {mg : Str → Option Value} {base : Heap} {f : Addr} {fd : FuncData} {C B : Addr}
theorem ok__law_pair (M : MB mg) (F : FnP K "_law_pair" s__law_pair f fd) (C__law_draw : Callee P w K mg base CX0 "_law_draw" ["pool", "size"] 1 spDraw) : FnOk P w K mg base CX0 2 f fd ["pool"] spPair := by
  refine F.ok sc__law_pair (fun vs H Q E h => ?_) (fun cdv A outer s H vs Q E hr h => ⟨_, PSs.nox (pss_cons (ps_if (pt_cmpR op_eq (pe_callC C__law_draw (hr.mono (by first | decide | exact Nat.le_refl _ | omega)) (by rfl) (pa_cons (pv 0) (pa_cons pe_int pa_nil))) pe_int (nomark _)) (pss_cons (ps_set (i := 1) sc__law_pair.nd rfl (.inl rfl) pe_int)
  (pss_cons (ps_set (i := 2) sc__law_pair.nd rfl (.inl rfl) pe_int)
  (pss_cons (ps_for PassesOwn.never rfl (pi_range1 (by rfl) M.range (pa_cons (pe_callC C__law_draw (hr.mono (by first | decide | exact Nat.le_refl _ | omega)) (by rfl) (pa_cons (pv 0) (pa_cons pe_int pa_nil))) pa_nil)) (pg_name (i := 3) sc__law_pair.nd rfl (.inl rfl)) (pss_one (ps_par (i := 1) (j := 2) (by rfl) sc__law_pair.nd rfl rfl (by decide) rfl rfl (pa_cons (pv 2) (pa_cons (pe_op op_add (pv 1) (pv 2)) pa_nil)) (by rfl))))
  (pss_one (ps_ret (pe_tup (pa_cons (pe_ix ix_tup (pe_tup (pa_cons (pv 1) (pa_cons (pe_op op_sub pe_int (pv 1)) (pa_cons (pe_op op_mul (pv 2) pe_int) pa_nil)))) (pe_callC C__law_draw (hr.mono (by first | decide | exact Nat.le_refl _ | omega)) (by rfl) (pa_cons (pv 0) (pa_cons pe_int pa_nil))) (fun _ _ => rfl)) (pa_cons (pv 2) pa_nil)))))))) pss_nil)
  (pss_cons (ps_set (i := 4) sc__law_pair.nd rfl (.inl rfl) (pe_op op_sub (pe_callC C__law_draw (hr.mono (by first | decide | exact Nat.le_refl _ | omega)) (by rfl) (pa_cons (pv 0) (pa_cons pe_int pa_nil))) pe_int))
  (pss_one (ps_ret (pe_tup (pa_cons (pe_ix ix_tup (pe_tup (pa_cons (pv 4) (pa_cons (pe_op op_sub (pe_callC C__law_draw (hr.mono (by first | decide | exact Nat.le_refl _ | omega)) (by rfl) (pa_cons (pv 0) (pa_cons pe_int pa_nil))) pe_int) (pa_cons pe_int pa_nil)))) (pe_callC C__law_draw (hr.mono (by first | decide | exact Nat.le_refl _ | omega)) (by rfl) (pa_cons (pv 0) (pa_cons pe_int pa_nil))) (fun _ _ => rfl)) (pa_cons (pe_op op_add pe_int (pe_ix ix_tup (pe_tup (pa_cons (pe_callC C__law_draw (hr.mono (by first | decide | exact Nat.le_refl _ | omega)) (by rfl) (pa_cons (pv 0) (pa_cons pe_int pa_nil))) (pa_cons (pe_callC C__law_draw (hr.mono (by first | decide | exact Nat.le_refl _ | omega)) (by rfl) (pa_cons (pv 0) (pa_cons pe_int pa_nil))) pa_nil))) (pe_callC C__law_draw (hr.mono (by first | decide | exact Nat.le_refl _ | omega)) (by rfl) (pa_cons (pv 0) (pa_cons pe_int pa_nil))) (fun _ _ => rfl))) pa_nil))))))), ?_⟩)
  · obtain ⟨p, rfl, _⟩ := h
    rfl
  · obtain ⟨p, rfl, hP, q⟩ := h
    have fin : ∀ (H5 : Hp) (t2 : Addr) (n d : Int), Kp p H H5 → Pool H5 p → H5 t2 = none → 0 < d → Sm n → Sm d → Q (.ref t2) (upd H5 t2 (.tup [.int n, .int d])) := fun H5 t2 n d k hP h a b c =>
      q t2 _ n d (k.trans (Kp.same (same_upd h))) (hP.same (same_upd h)) (fresh_of k hP h) upd_same a b c
    refine ⟨_, rfl, _, _, rfl, (by decide), (by decide), hP, fun v o v0 v1 hP => ?_⟩
    have k1 : Kp p H (upd H p o) := Kp.upd
    generalize upd H p o = H1 at k1 hP ⊢
    walk_at "rd"
    refine ite2 (fun e => ?_) (fun e => ?_)
    · walk_at "rd"
      refine ⟨_, _, rfl, (by decide), (by decide), hP, fun v o v0 v1 hP => ?_⟩
      have k1 : Kp p H (upd H1 p o) := k1.trans Kp.upd
      generalize upd H1 p o = H1 at k1 hP ⊢
      have hv : v < 2 ^ 62 := by omega
      walk_at "rd"
      refine for_range (fun i σ' H' => (∃ (one two : Int) (z x : Option V), σ' = [some (.ref p), some (.int one), some (.int two), z, x] ∧ 0 ≤ one ∧ one ≤ two ∧ 0 < two ∧ two ≤ 2 ^ (i + 1)) ∧ H' = H1) ⟨⟨1, 1, _, _, rfl, by decide, by decide, by decide, by decide⟩, rfl⟩ ?_ ?_
      · rintro i σ' H' hi ⟨⟨a, b, z, x, rfl, a0, ab, b0, bb⟩, rfl⟩
        walk_at "rd"
        refine ⟨_, _, rfl, ⟨b, a + b, _, _, rfl, by omega, by omega, by omega, ?_⟩, rfl⟩
        rw [Int.pow_succ 2 (i + 1)]
        omega
      · rintro σ' H' ⟨⟨a, b, z, x, rfl, a0, ab, b0, bb⟩, rfl⟩
        have bb2 := fib_le bb (by omega)
        walk_at "rd"
        refine ⟨(by show 3 ≤ sizeLine; decide), fun t ht => ?_⟩
        have hs := same_upd (o := .tup [.int (a), .int (0 - a), .int (b * 7)]) ht
        have ht3 := pool_ne hP ht
        have k1 := k1.trans (Kp.same (p := p) hs)
        have hP := hP.same hs
        have et : (upd _ t (.tup [V.int (a), V.int (0 - a), V.int (b * 7)])) t = some (.tup [V.int (a), V.int (0 - a), V.int (b * 7)]) := upd_same (H := H')
        generalize upd H' t (.tup [V.int (a), V.int (0 - a), V.int (b * 7)]) = H1 at hs k1 hP et ⊢
        refine ⟨_, rfl, _, _, rfl, (by decide), (by decide), hP, fun v o v0 v1 hP => ?_⟩
        have k1 := k1.trans (Kp.upd (o := o))
        have et := (upd_ne ht3 (H := H1) (o := o)).trans et
        generalize upd H1 p o = H' at k1 hP et ⊢
        rcases three v0 v1 with rfl | rfl | rfl
        · refine ⟨_, _, _, _, rfl, rfl, .inl (.inl et), rfl, ?_⟩
          walk_at "rd"
          exact ⟨(by show 2 ≤ sizeLine; decide), fun t2 h2 => fin _ _ _ _ k1 hP h2 b0 (sm_fib (by omega) (by omega)) (sm_fib (by omega) (by omega))⟩
        · refine ⟨_, _, _, _, rfl, rfl, .inl (.inl et), rfl, ?_⟩
          walk_at "rd"
          exact ⟨(by show 2 ≤ sizeLine; decide), fun t2 h2 => fin _ _ _ _ k1 hP h2 b0 (sm_fib (by omega) (by omega)) (sm_fib (by omega) (by omega))⟩
        · refine ⟨_, _, _, _, rfl, rfl, .inl (.inl et), rfl, ?_⟩
          walk_at "rd"
          exact ⟨(by show 2 ≤ sizeLine; decide), fun t2 h2 => fin _ _ _ _ k1 hP h2 b0 (sm_fib (by omega) (by omega)) (sm_fib (by omega) (by omega))⟩
    · walk_at "rd"
      refine ⟨_, _, rfl, (by decide), (by decide), hP, fun v o v0 v1 hP => ?_⟩
      have k1 : Kp p H (upd H1 p o) := k1.trans Kp.upd
      generalize upd H1 p o = H' at k1 hP ⊢
      walk_at "rd"
      refine ⟨_, _, rfl, (by decide), (by decide), hP, fun v2 o v20 v21 hP => ?_⟩
      have k1 : Kp p H (upd H' p o) := k1.trans Kp.upd
      generalize upd H' p o = H' at k1 hP ⊢
      walk_at "rd"
      refine ⟨(by show 3 ≤ sizeLine; decide), fun t ht => ?_⟩
      have hs := same_upd (o := .tup [.int (v - 1000000), .int (v2 - 4), .int (0)]) ht
      have ht3 := pool_ne hP ht
      have k1 := k1.trans (Kp.same (p := p) hs)
      have hP := hP.same hs
      have et : (upd _ t (.tup [V.int (v - 1000000), V.int (v2 - 4), V.int (0)])) t = some (.tup [V.int (v - 1000000), V.int (v2 - 4), V.int (0)]) := upd_same (H := H')
      generalize upd H' t (.tup [V.int (v - 1000000), V.int (v2 - 4), V.int (0)]) = H1 at hs k1 hP et ⊢
      refine ⟨_, rfl, _, _, rfl, (by decide), (by decide), hP, fun i o i0 i1 hP => ?_⟩
      have k1 := k1.trans (Kp.upd (o := o))
      have et := (upd_ne ht3 (H := H1) (o := o)).trans et
      generalize upd H1 p o = H' at k1 hP et ⊢
      obtain ⟨x, hx, x0, x1⟩ : ∃ x : Int, atI [V.int (v - 1000000), V.int (v2 - 4), V.int 0] i = some (.int x) ∧ -(2 ^ 64) < x ∧ x < 2 ^ 64 := by
        rcases three i0 i1 with rfl | rfl | rfl
        · exact ⟨_, rfl, by omega, by omega⟩
        · exact ⟨_, rfl, by omega, by omega⟩
        · exact ⟨_, rfl, by omega, by omega⟩
      refine ⟨_, _, _, _, rfl, rfl, .inl (.inl et), hx, ?_⟩
      walk_at "rd"
      refine ⟨_, _, rfl, (by decide), (by decide), hP, fun y1 o y10 y11 hP => ?_⟩
      have k1 := k1.trans (Kp.upd (o := o))
      generalize upd H' p o = H' at k1 hP ⊢
      walk_at "rd"
      refine ⟨_, _, rfl, (by decide), (by decide), hP, fun y2 o y20 y21 hP => ?_⟩
      have k1 := k1.trans (Kp.upd (o := o))
      generalize upd H' p o = H' at k1 hP ⊢
      walk_at "rd"
      refine ⟨(by show 2 ≤ sizeLine; decide), fun t ht => ?_⟩
      have hs := same_upd (o := .tup [.int (y1), .int (y2)]) ht
      have ht3 := pool_ne hP ht
      have k1 := k1.trans (Kp.same (p := p) hs)
      have hP := hP.same hs
      have et : (upd _ t (.tup [V.int (y1), V.int (y2)])) t = some (.tup [V.int (y1), V.int (y2)]) := upd_same (H := H')
      generalize upd H' t (.tup [V.int (y1), V.int (y2)]) = H1 at hs k1 hP et ⊢
      refine ⟨_, rfl, _, _, rfl, (by decide), (by decide), hP, fun j o j0 j1 hP => ?_⟩
      have k1 := k1.trans (Kp.upd (o := o))
      have et := (upd_ne ht3 (H := H1) (o := o)).trans et
      generalize upd H1 p o = H' at k1 hP et ⊢
      obtain ⟨y, hy, z0, z1⟩ : ∃ y : Int, atI [V.int y1, V.int y2] j = some (.int y) ∧ 0 ≤ y ∧ y < 1000 := by
        rcases two j0 j1 with rfl | rfl
        · exact ⟨_, rfl, by omega, by omega⟩
        · exact ⟨_, rfl, by omega, by omega⟩
      refine ⟨_, _, _, _, rfl, rfl, .inl (.inl et), hy, ?_⟩
      walk_at "rd"
      exact ⟨(by show 2 ≤ sizeLine; decide), fun t2 h2 => fin _ _ _ _ k1 hP h2 (by omega) (sm_small x0 x1) (sm_small (by omega) (by omega))⟩
end

/-! ### lowest terms: what the law compares -/
theorem gcdI_scale {k n d : Int} (hk : 0 < k) : gcdI (k * n) (k * d) = k * gcdI n d := by
  unfold gcdI
  rw [Int.natAbs_mul, Int.natAbs_mul, Nat.gcd_mul_left, Int.natCast_mul]
  congr 1
  omega
theorem nrm_scale {k n d : Int} (hk : 0 < k) : nrm (k * n) (k * d) = nrm n d := by
  unfold nrm
  rw [gcdI_scale hk, Int.mul_ediv_mul_of_pos _ _ hk, Int.mul_ediv_mul_of_pos _ _ hk]
theorem nrm_dec {n d : Int} : n = gcdI n d * (nrm n d).1 ∧ d = gcdI n d * (nrm n d).2 := by
  have h1 : gcdI n d ∣ n := by
    unfold gcdI
    exact Int.ofNat_dvd_left.mpr (Nat.gcd_dvd_left _ _)
  have h2 : gcdI n d ∣ d := by
    unfold gcdI
    exact Int.ofNat_dvd_left.mpr (Nat.gcd_dvd_right _ _)
  exact ⟨(Int.mul_ediv_cancel' h1).symm, (Int.mul_ediv_cancel' h2).symm⟩
theorem nrm_nrm {n d : Int} (hd : 0 < d) : nrm (nrm n d).1 (nrm n d).2 = nrm n d := by
  have h := nrm_dec (n := n) (d := d)
  have hg := gcdI_pos (n := n) hd
  have e : nrm (gcdI n d * (nrm n d).1) (gcdI n d * (nrm n d).2) = nrm (nrm n d).1 (nrm n d).2 := nrm_scale hg
  rw [← h.1, ← h.2] at e
  exact e.symm
theorem parts {n d n' d' : Int} (hd : 0 < d) (hd' : 0 < d') : ∃ g a b g' c e, 0 < g ∧ 0 < g' ∧ n = g * a ∧ d = g * b ∧ n' = g' * c ∧ d' = g' * e ∧ nrm n d = (a, b) ∧ nrm n' d' = (c, e) :=
  ⟨gcdI n d, (nrm n d).1, (nrm n d).2, gcdI n' d', (nrm n' d').1, (nrm n' d').2, gcdI_pos hd, gcdI_pos hd', nrm_dec.1, nrm_dec.2, nrm_dec.1, nrm_dec.2, rfl, rfl⟩
theorem rAdd_nrm {p q : Int × Int} (hp : 0 < p.2) (hq : 0 < q.2) : rAdd (nrm p.1 p.2) (nrm q.1 q.2) = rAdd p q := by
  obtain ⟨n, d⟩ := p
  obtain ⟨n', d'⟩ := q
  obtain ⟨g, a, b, g', c, e, hg, hg', e1, e2, e3, e4, e5, e6⟩ := parts (n := n) (n' := n') hp hq
  show rAdd (nrm n d) (nrm n' d') = rAdd (n, d) (n', d')
  rw [e5, e6]
  show nrm (a * e + c * b) (b * e) = nrm (n * d' + n' * d) (d * d')
  subst e1 e2 e3 e4
  rw [show g * a * (g' * e) + g' * c * (g * b) = g * g' * (a * e + c * b) by grind, show g * b * (g' * e) = g * g' * (b * e) by grind, nrm_scale (Int.mul_pos hg hg')]
theorem rSub_nrm {p q : Int × Int} (hp : 0 < p.2) (hq : 0 < q.2) : rSub (nrm p.1 p.2) (nrm q.1 q.2) = rSub p q := by
  obtain ⟨n, d⟩ := p
  obtain ⟨n', d'⟩ := q
  obtain ⟨g, a, b, g', c, e, hg, hg', e1, e2, e3, e4, e5, e6⟩ := parts (n := n) (n' := n') hp hq
  show rSub (nrm n d) (nrm n' d') = rSub (n, d) (n', d')
  rw [e5, e6]
  show nrm (a * e - c * b) (b * e) = nrm (n * d' - n' * d) (d * d')
  subst e1 e2 e3 e4
  rw [show g * a * (g' * e) - g' * c * (g * b) = g * g' * (a * e - c * b) by grind, show g * b * (g' * e) = g * g' * (b * e) by grind, nrm_scale (Int.mul_pos hg hg')]
theorem rMul_nrm {p q : Int × Int} (hp : 0 < p.2) (hq : 0 < q.2) : rMul (nrm p.1 p.2) (nrm q.1 q.2) = rMul p q := by
  obtain ⟨n, d⟩ := p
  obtain ⟨n', d'⟩ := q
  obtain ⟨g, a, b, g', c, e, hg, hg', e1, e2, e3, e4, e5, e6⟩ := parts (n := n) (n' := n') hp hq
  show rMul (nrm n d) (nrm n' d') = rMul (n, d) (n', d')
  rw [e5, e6]
  show nrm (a * c) (b * e) = nrm (n * n') (d * d')
  subst e1 e2 e3 e4
  rw [show g * a * (g' * c) = g * g' * (a * c) by grind, show g * b * (g' * e) = g * g' * (b * e) by grind, nrm_scale (Int.mul_pos hg hg')]
theorem less_nrm {p q : Int × Int} (hp : 0 < p.2) (hq : 0 < q.2) : decide ((nrm p.1 p.2).1 * (nrm q.1 q.2).2 < (nrm q.1 q.2).1 * (nrm p.1 p.2).2) = decide (p.1 * q.2 < q.1 * p.2) := by
  obtain ⟨n, d⟩ := p
  obtain ⟨n', d'⟩ := q
  obtain ⟨g, a, b, g', c, e, hg, hg', e1, e2, e3, e4, e5, e6⟩ := parts (n := n) (n' := n') hp hq
  dsimp only
  rw [e5, e6]
  subst e1 e2 e3 e4
  have hgg := Int.mul_pos hg hg'
  rw [show g * a * (g' * e) = g * g' * (a * e) by grind, show g' * c * (g * b) = g * g' * (c * b) by grind]
  have h := Int.mul_lt_mul_left (b := a * e) (c := c * b) hgg
  exact (decide_eq_decide.mpr h).symm
theorem nrm_sign {n d : Int} (hd : 0 < d) : ((nrm n d).1 < 0 ↔ n < 0) ∧ ((nrm n d).1 = 0 ↔ n = 0) := by
  have h := (nrm_dec (n := n) (d := d)).1
  have hg := gcdI_pos (n := n) hd
  generalize (nrm n d).1 = a at h ⊢
  generalize gcdI n d = g at h hg
  subst h
  constructor
  · constructor
    · intro h
      exact Int.mul_neg_of_pos_of_neg hg h
    · intro h
      rcases Int.lt_or_le a 0 with h' | h'
      · exact h'
      · exact absurd (Int.mul_nonneg (Int.le_of_lt hg) h') (Int.not_le.mpr h)
  · constructor
    · intro h
      rw [h, Int.mul_zero]
    · intro h
      rcases Int.mul_eq_zero.mp h with h' | h'
      · omega
      · exact h'
theorem rOver_nrm {p q : Int × Int} {s : Int} (hp : 0 < p.2) (hq : 0 < q.2) (h0 : q.1 ≠ 0) (hs : s = if q.1 < 0 then -1 else 1) :
    rOver (nrm p.1 p.2) (nrm q.1 q.2) = nrm (p.1 * q.2 * s) (p.2 * q.1 * s) := by
  obtain ⟨n, d⟩ := p
  obtain ⟨n', d'⟩ := q
  have sg := nrm_sign (n := n') hq
  obtain ⟨g, a, b, g', c, e, hg, hg', e1, e2, e3, e4, e5, e6⟩ := parts (n := n) (n' := n') hp hq
  dsimp only at *
  rw [e6] at sg
  rw [e5, e6]
  unfold rOver
  dsimp only at sg ⊢
  have hgg := Int.mul_pos hg hg'
  by_cases h : n' < 0
  · rw [if_pos h] at hs
    rw [if_pos (sg.1.mpr h)]
    subst e1 e2 e3 e4 hs
    rw [show g * a * (g' * e) * -1 = g * g' * (-a * e) by grind, show g * b * (g' * c) * -1 = g * g' * (-c * b) by grind, nrm_scale hgg]
  · rw [if_neg h] at hs
    rw [if_neg (fun z => h (sg.1.mp z))]
    subst e1 e2 e3 e4 hs
    rw [show g * a * (g' * e) * 1 = g * g' * (a * e) by grind, show g * b * (g' * c) * 1 = g * g' * (c * b) by grind, nrm_scale hgg]

/-! ### law -/
/-- C(k = v, ..) by a known binding -/
structure MakeKw (P : Program) (w : World) (K : PySem.W.Frag) (mg : Str → Option Value) (base : Heap) (CX : CXT) (x : Str) (C : Addr) (ps ks : List Str) (gV : List V → List V → List V) (k : Nat) (sp : Sp) : Prop where
  g : mg x = some (.ref C)
  ex : ∃ f fd g, Mk K C f ∧ KBn K fd ps 1 ks g gV ∧ FnOk P w K mg base CX k f fd ps sp
theorem pe_makeKw {X : Cx} {CX : CXT} {k : Nat} {C : Addr} {ps ks : List Str} {gV : List V → List V → List V} {sp : Sp} {E : XK} {x : Str} {p pos : Pos} {kws : List Keyword} {tk : TA} (M : MakeKw X.prog X.w X.K X.mg X.base CX x C ps ks gV k sp) (hr : Room (k + 1) X.A) (hg : Gl X x) (hx : Passes CX X E) (hkw : PK X kws tk)
    (hall : (backToKw pos (keywordEach kws X.env)).all (·.1.isSome) = true := by rfl) (hks : (backToKw pos (keywordEach kws X.env)).filterMap (·.1) = ks := by rfl) (hdb : (x == ("__debug__" : Str)) = false := by decide)
    (hpl : ((backTo pos (starEach [] X.env)).any (·.1) || (backToKw pos (keywordEach kws X.env)).any (·.1.isNone)) = false := by rfl) :
    PE X (.Call (.Name x p) [] kws pos) (tMakeK C 0 ks.length sp gV E tNil tk) := by
  obtain ⟨f, fd, g, h1, h2, h3⟩ := M.ex
  exact pe_makeK0 h1 h3 hr hg M.g h2 hx hkw hall hks hdb hpl
theorem mulw_b {i j : Int} {a b : Nat} (ha : i.natAbs < 2 ^ a) (hb : j.natAbs < 2 ^ b) (h0 : 0 < a) (h1 : 0 < b) (h : a + b ≤ 1000000) : CMulW i j := wide_mul ha hb h0 h1 h
/-- the callees of the law -/
structure LawT (P : Program) (w : World) (K : PySem.W.Frag) (mg : Str → Option Value) (base : Heap) (C B : Addr) : Prop where
  pool : Callee P w K mg base CX0 "_law_pool" ["script", "budget"] 1 (spPool K)
  draw : Callee P w K mg base CX0 "_law_draw" ["pool", "size"] 1 spDraw
  pair : Callee P w K mg base CX0 "_law_pair" ["pool"] 2 spPair
  less : Callee P w K mg base CX0 "_law_less" ["num", "den"] 1 spLless
  plus : Callee P w K mg base CX0 "_law_plus" ["one", "other"] 2 (spBinT K rAdd)
  minus : Callee P w K mg base CX0 "_law_minus" ["one", "other"] 2 (spBinT K rSub)
  times : Callee P w K mg base CX0 "_law_times" ["one", "other"] 2 (spBinT K rMul)
  below : Callee P w K mg base CX0 "_law_below" ["one", "other"] 1 (spBelow K)
  is_ : Callee P w K mg base CX0 "_law_is" ["ratio", "due"] 4 (spIs K C)
  same : Callee P w K mg base CX0 "_law_same" ["actual", "due"] 3 (spSame K 2)
  refused : Callee P w K mg base CX0 "_law_refused" ["one", "other"] 4 (spRefused K)
  MR : MakeF P w K mg base (L2.CX P w) "Ratio" C ["self", "num", "den"] [] 1 (spInit C B)
  M1 : MakeF P w K mg base (L2.CX P w) "Ratio" C ["self", "num", "den"] [.int 1] 1 (spInit C B)
  MK : MakeKw P w K mg base (L2.CX P w) "Ratio" C ["self", "num", "den"] ["num", "den"] (fun vs zs => vs ++ zs) 1 (spInit C B)
  add : MethF P w K mg base CX0 C (PySem.dunder Operator.Add.info.2) 3 (spBin C rAdd)
  sub : MethF P w K mg base CX0 C (PySem.dunder Operator.Sub.info.2) 3 (spBin C rSub)
  mul : MethF P w K mg base CX0 C (PySem.dunder Operator.Mult.info.2) 3 (spBin C rMul)
  eq : MethF P w K mg base CX0 C "__eq__" 1 (spEq C)
  str : MethF P w K mg base CX0 C "__str__" 1 (spStr C)
  lss : MethC P w K mg base CX0 C "less" ["self", "other"] 1 (spLess C)
  over : MethC P w K mg base (L2.CX P w) C "over" ["self", "other"] 3 (spOver C B)
section
variable {P : Program} {w : World} {K : PySem.W.Frag} {mg : Str → Option Value} {base : Heap} {f : Addr} {fd : FuncData} {C B : Addr}
/-- what a turn has in hand -/
structure Fx (K : PySem.W.Frag) (C : Addr) (H : Hp) (p t1 t2 a b t3 : Addr) (u v : Int × Int) : Prop where
  pool : Pool H p
  one : SqT K H t1 [.int u.1, .int u.2]
  oth : SqT K H t2 [.int v.1, .int v.2]
  ra : RatAt C H a (nrm u.1 u.2)
  rb : RatAt C H b (nrm v.1 v.2)
  due : SqT K H t3 [.int (nrm u.1 u.2).1, .int (nrm u.1 u.2).2]
theorem Fx.same {K : PySem.W.Frag} {C : Addr} {H H' : Hp} {p t1 t2 a b t3 : Addr} {u v : Int × Int} (h : Fx K C H p t1 t2 a b t3 u v) (e : Same H H') : Fx K C H' p t1 t2 a b t3 u v :=
  ⟨h.pool.same e, same_seqT e h.one, same_seqT e h.oth, h.ra.same e, h.rb.same e, same_seqT e h.due⟩
/-- a fraction's parts: its denominator positive, both small -/
structure Bd (u : Int × Int) : Prop where
  pos : 0 < u.2
  n : Sm u.1
  d : Sm u.2
theorem Bd.nrm {u : Int × Int} (h : Bd u) : Bd (nrm u.1 u.2) := ⟨nrm_den_pos h.pos, (sm_nrm h.n h.d).1, (sm_nrm h.n h.d).2⟩
theorem eqv_pair (p q : Int × Int) : PyData.eqv (.tuple [.int q.1, .int q.2]) (.tuple [.int p.1, .int p.2]) = decide (p = q) := by
  obtain ⟨a, b⟩ := p
  obtain ⟨c, d⟩ := q
  show ((c == a) && ((d == b) && true)) = decide ((a, b) = (c, d))
  by_cases h1 : c = a
  · by_cases h2 : d = b
    · subst h1 h2
      rw [decide_eq_true rfl, beq_self_eq_true, beq_self_eq_true]
      rfl
    · rw [decide_eq_false (fun z => h2 (Prod.mk.inj z).2.symm), beq_eq_false_iff_ne.mpr h2, Bool.false_and, Bool.and_false]
  · rw [decide_eq_false (fun z => h1 (Prod.mk.inj z).1.symm), beq_eq_false_iff_ne.mpr h1, Bool.false_and]
def spLaw (K : PySem.W.Frag) : Sp := fun vs H Q _ => ∃ (a : Addr) (ns : List Int), vs = [.ref a] ∧ SqL K H a (ns.map V.int) ∧ ∀ H', Q (.bl true) H'
theorem ok_law (T : RatT K mg C B) (M : MB mg) (L : LawT P w K mg base C B) (F : FnP K "law" s_law f fd) : FnOk P w K mg base CX0 6 f fd ["script"] (spLaw K) := by
  have C__law_pool := L.pool
  have C__law_draw := L.draw
  have C__law_pair := L.pair
  have C__law_less := L.less
  have C__law_plus := L.plus
  have C__law_minus := L.minus
  have C__law_times := L.times
  have C__law_below := L.below
  have C__law_is := L.is_
  have C__law_same := L.same
  have C__law_refused := L.refused
  refine F.ok sc_law (fun vs H Q E h => ?_) (fun cdv A outer s H vs Q E hr h => ⟨_, PSs.nox (pss_cons (ps_set (i := 1) sc_law.nd rfl (.inl rfl) (pe_callC C__law_pool (hr.mono (by first | decide | exact Nat.le_refl _ | omega)) (by rfl) (pa_cons (pv 0) (pa_cons pe_int pa_nil))))
  (pss_cons (ps_for PassesOwn.never rfl (pi_range1 (by rfl) M.range (pa_cons pe_int pa_nil)) (pg_name (i := 2) sc_law.nd rfl (.inl rfl)) (pss_cons (ps_set (i := 3) sc_law.nd rfl (.inl rfl) (pe_callC C__law_pair (hr.mono (by first | decide | exact Nat.le_refl _ | omega)) (by rfl) (pa_cons (pv 1) pa_nil)))
  (pss_cons (ps_set (i := 4) sc_law.nd rfl (.inl rfl) (pe_ix ix_tup (pe_tup (pa_cons (pe_callC C__law_pair (hr.mono (by first | decide | exact Nat.le_refl _ | omega)) (by rfl) (pa_cons (pv 1) pa_nil)) (pa_cons (pv 3) pa_nil))) (pe_callTy call_int1 (by rfl) M.int (by decide +kernel) (pa_cons (pe_cmpR op_eq (pe_callC C__law_draw (hr.mono (by first | decide | exact Nat.le_refl _ | omega)) (by rfl) (pa_cons (pv 1) (pa_cons pe_int pa_nil))) pe_int (nomark _)) pa_nil)) (fun _ _ => rfl)))
  (pss_cons (ps_set (i := 5) sc_law.nd rfl (.inl rfl) (pe_makeX L.MR (hr.mono (by decide)) (by rfl) passL (pa_cons (pe_ix ix_tup (pv 3) pe_int (fun _ _ => rfl)) (pa_cons (pe_ix ix_tup (pv 3) pe_int (fun _ _ => rfl)) pa_nil))))
  (pss_cons (ps_set (i := 6) sc_law.nd rfl (.inl rfl) (pe_makeX L.MR (hr.mono (by decide)) (by rfl) passL (pa_cons (pe_ix ix_tup (pv 4) pe_int (fun _ _ => rfl)) (pa_cons (pe_ix ix_tup (pv 4) pe_int (fun _ _ => rfl)) pa_nil))))
  (pss_cons (ps_set (i := 7) sc_law.nd rfl (.inl rfl) (pe_callC C__law_less (hr.mono (by first | decide | exact Nat.le_refl _ | omega)) (by rfl) (pa_cons (pe_ix ix_tup (pv 3) pe_int (fun _ _ => rfl)) (pa_cons (pe_ix ix_tup (pv 3) pe_int (fun _ _ => rfl)) pa_nil))))
  (pss_cons (ps_set (i := 8) sc_law.nd rfl (.inl rfl) (pe_callTy call_str_int (by rfl) M.str (by decide +kernel) (pa_cons (pe_ix ix_tup (pv 7) pe_int (fun _ _ => rfl)) pa_nil)))
  (Evl.pss_cut (ps_if (pt_cmpR op_gt (pe_ix ix_tup (pv 7) pe_int (fun _ _ => rfl)) pe_int (nomark _)) (pss_one (ps_set (i := 8) sc_law.nd rfl (.inl rfl) (pe_op op_add_str (pe_op op_add_str (pv 8) pe_str) (pe_callTy call_str_int (by rfl) M.str (by decide +kernel) (pa_cons (pe_ix ix_tup (pv 7) pe_int (fun _ _ => rfl)) pa_nil))))) pss_nil)
  (pss_cons (ps_if (PW.pt (pw_or (pt_not (pt_val (pe_callC C__law_is (hr.mono (by first | decide | exact Nat.le_refl _ | omega)) (by rfl) (pa_cons (pv 5) (pa_cons (pv 7) pa_nil))))) (pw_or (pt_not (pt_val (pe_callC C__law_same (hr.mono (by first | decide | exact Nat.le_refl _ | omega)) (by rfl) (pa_cons (pe_callTy (call_strO L.str (hr.mono (by decide)) pass0) (by rfl) M.str (by decide +kernel) (pa_cons (pv 5) pa_nil)) (pa_cons (pv 8) pa_nil))))) (pw_or1 (pt_not (pt_val (pe_callC C__law_is (hr.mono (by first | decide | exact Nat.le_refl _ | omega)) (by rfl) (pa_cons (pe_op (op_bin (op := .Add) T.sf L.add (hr.mono (by decide)) pass0) (pv 5) (pv 6)) (pa_cons (pe_callC C__law_plus (hr.mono (by first | decide | exact Nat.le_refl _ | omega)) (by rfl) (pa_cons (pv 3) (pa_cons (pv 4) pa_nil))) pa_nil))))))))) (pss_one (ps_ret pe_bl)) pss_nil)
  (pss_cons (ps_if (PW.pt (pw_or (pt_not (pt_val (pe_callC C__law_is (hr.mono (by first | decide | exact Nat.le_refl _ | omega)) (by rfl) (pa_cons (pe_op (op_bin (op := .Sub) T.sf L.sub (hr.mono (by decide)) pass0) (pv 5) (pv 6)) (pa_cons (pe_callC C__law_minus (hr.mono (by first | decide | exact Nat.le_refl _ | omega)) (by rfl) (pa_cons (pv 3) (pa_cons (pv 4) pa_nil))) pa_nil))))) (pw_or1 (pt_not (pt_val (pe_callC C__law_is (hr.mono (by first | decide | exact Nat.le_refl _ | omega)) (by rfl) (pa_cons (pe_op (op_bin (op := .Mult) T.sf L.mul (hr.mono (by decide)) pass0) (pv 5) (pv 6)) (pa_cons (pe_callC C__law_times (hr.mono (by first | decide | exact Nat.le_refl _ | omega)) (by rfl) (pa_cons (pv 3) (pa_cons (pv 4) pa_nil))) pa_nil)))))))) (pss_one (ps_ret pe_bl)) pss_nil)
  (pss_cons (ps_if (PW.pt (pw_or (pt_not (pt_val (pe_callC C__law_same (hr.mono (by first | decide | exact Nat.le_refl _ | omega)) (by rfl) (pa_cons (pe_methX L.lss (hr.mono (by decide)) pass0 (pv 5) (pa_cons (pv 6) pa_nil)) (pa_cons (pe_callC C__law_below (hr.mono (by first | decide | exact Nat.le_refl _ | omega)) (by rfl) (pa_cons (pv 3) (pa_cons (pv 4) pa_nil))) pa_nil))))) (pw_or1 (pt_not (pt_val (pe_callC C__law_same (hr.mono (by first | decide | exact Nat.le_refl _ | omega)) (by rfl) (pa_cons (pe_cmpR (op_eqO T.nf L.eq (hr.mono (by decide)) pass0) (pv 5) (pv 6) (nomark _)) (pa_cons (pe_cmpR (op_eqD hr.units) (pe_callC C__law_less (hr.mono (by first | decide | exact Nat.le_refl _ | omega)) (by rfl) (pa_cons (pe_ix ix_tup (pv 4) pe_int (fun _ _ => rfl)) (pa_cons (pe_ix ix_tup (pv 4) pe_int (fun _ _ => rfl)) pa_nil))) (pv 7) (nomark _)) pa_nil)))))))) (pss_one (ps_ret pe_bl)) pss_nil)
  (pss_cons (ps_set (i := 9) sc_law.nd rfl (.inl rfl) (pe_op op_sub pe_int (pe_op op_mul pe_int (pe_callTy call_int1 (by rfl) M.int (by decide +kernel) (pa_cons (pe_cmpR op_lt (pe_ix ix_tup (pv 4) pe_int (fun _ _ => rfl)) pe_int (nomark _)) pa_nil)))))
  (Evl.pss_cut (ps_if (pt_cmpR op_eq (pe_ix ix_tup (pv 4) pe_int (fun _ _ => rfl)) pe_int (nomark _)) (pss_one (ps_if (pt_not (pt_val (pe_callC C__law_refused (hr.mono (by first | decide | exact Nat.le_refl _ | omega)) (by rfl) (pa_cons (pv 3) (pa_cons (pv 4) pa_nil))))) (pss_one (ps_ret pe_bl)) pss_nil)) (pss_one (ps_if (pt_not (pt_val (pe_callC C__law_is (hr.mono (by first | decide | exact Nat.le_refl _ | omega)) (by rfl) (pa_cons (pe_methX L.over (hr.mono (by decide)) passL (pv 5) (pa_cons (pv 6) pa_nil)) (pa_cons (pe_callC C__law_less (hr.mono (by first | decide | exact Nat.le_refl _ | omega)) (by rfl) (pa_cons (pe_op op_mulW (pe_op op_mulW (pe_ix ix_tup (pv 3) pe_int (fun _ _ => rfl)) (pe_ix ix_tup (pv 4) pe_int (fun _ _ => rfl))) (pv 9)) (pa_cons (pe_op op_mulW (pe_op op_mulW (pe_ix ix_tup (pv 3) pe_int (fun _ _ => rfl)) (pe_ix ix_tup (pv 4) pe_int (fun _ _ => rfl))) (pv 9)) pa_nil))) pa_nil))))) (pss_one (ps_ret pe_bl)) pss_nil)))
  (pss_one (ps_if (PW.pt (pw_or (pt_not (pt_val (pe_callC C__law_is (hr.mono (by first | decide | exact Nat.le_refl _ | omega)) (by rfl) (pa_cons (pv 5) (pa_cons (pv 7) pa_nil))))) (pw_or1 (pt_not (pt_val (pe_callC C__law_is (hr.mono (by first | decide | exact Nat.le_refl _ | omega)) (by rfl) (pa_cons (pv 6) (pa_cons (pe_callC C__law_less (hr.mono (by first | decide | exact Nat.le_refl _ | omega)) (by rfl) (pa_cons (pe_ix ix_tup (pv 4) pe_int (fun _ _ => rfl)) (pa_cons (pe_ix ix_tup (pv 4) pe_int (fun _ _ => rfl)) pa_nil))) pa_nil)))))))) (pss_one (ps_ret pe_bl)) pss_nil)))))))))))))))
  (pss_cons (ps_for PassesOwn.never rfl (pi_range1 (by rfl) M.range (pa_cons pe_int pa_nil)) (pg_name (i := 2) sc_law.nd rfl (.inl rfl)) (pss_one (ps_if (pt_not (pt_val (pe_callC C__law_refused (hr.mono (by first | decide | exact Nat.le_refl _ | omega)) (by rfl) (pa_cons (pe_tup (pa_cons (pe_op op_sub (pe_callC C__law_draw (hr.mono (by first | decide | exact Nat.le_refl _ | omega)) (by rfl) (pa_cons (pv 1) (pa_cons pe_int pa_nil))) pe_int) (pa_cons (pe_op op_sub pe_int (pe_ix ix_tup (pe_tup (pa_cons (pe_callC C__law_draw (hr.mono (by first | decide | exact Nat.le_refl _ | omega)) (by rfl) (pa_cons (pv 1) (pa_cons pe_int pa_nil))) (pa_cons (pe_callC C__law_draw (hr.mono (by first | decide | exact Nat.le_refl _ | omega)) (by rfl) (pa_cons (pv 1) (pa_cons pe_int pa_nil))) pa_nil))) (pv 2) (fun _ _ => rfl))) pa_nil))) (pa_cons pe_non pa_nil))))) (pss_one (ps_ret pe_bl)) pss_nil)))
  (pss_one (ps_ret (pe_and (pe_callC C__law_is (hr.mono (by first | decide | exact Nat.le_refl _ | omega)) (by rfl) (pa_cons (pe_makeX L.M1 (hr.mono (by decide)) (by rfl) passL (pa_cons pe_int pa_nil)) (pa_cons (pe_tup (pa_cons pe_int (pa_cons pe_int pa_nil))) pa_nil))) (pe_one (pe_callC C__law_is (hr.mono (by first | decide | exact Nat.le_refl _ | omega)) (by rfl) (pa_cons (pe_makeKw L.MK (hr.mono (by decide)) (by rfl) passL (pk_cons pe_int (pk_cons pe_int pk_nil))) (pa_cons (pe_tup (pa_cons pe_int (pa_cons pe_int pa_nil))) pa_nil)))))))))), ?_⟩)
  · obtain ⟨a, ns, rfl, _⟩ := h
    rfl
  · obtain ⟨a, ns, rfl, hS, q⟩ := h
    refine ⟨_, rfl, a, ns, 0, rfl, hS, fun p H1 _ _ hP => ?_⟩
    walk_at "rd"
    refine for_range (fun _ σ' H' => (∃ z2 z3 z4 z5 z6 z7 z8 z9, σ' = [some (.ref a), some (.ref p), z2, z3, z4, z5, z6, z7, z8, z9]) ∧ Pool H' p) ⟨⟨_, _, _, _, _, _, _, _, rfl⟩, hP⟩ ?_ ?_
    · rintro i σ' H0 hi ⟨⟨z2, z3, z4, z5, z6, z7, z8, z9, rfl⟩, hP⟩
      -- one, other
      refine ⟨_, rfl, p, rfl, hP, fun t1 H1 n d _ hP n1 e1 hd sn sd => ?_⟩
      have ne1 : t1 ≠ p := fun z => by
        obtain ⟨_, _, _, _, _, _, z2⟩ := hP.there
        rw [z, z2] at e1
        cases e1
      refine ⟨_, rfl, p, rfl, hP, fun t2 H2 n' d' k2 hP n2 e2 hd' sn' sd' => ?_⟩
      have ne2 : t2 ≠ p := fun z => by
        obtain ⟨_, _, _, _, _, _, z2⟩ := hP.there
        rw [z, z2] at e2
        cases e2
      have e1 := k2 _ _ ne1 e1
      refine ⟨_, rfl, (by show 2 ≤ sizeLine; decide), fun tt htt => ?_⟩
      have net := pool_ne hP htt
      have hs := same_upd (o := .tup [.ref t2, .ref t1]) htt
      have hP := hP.same hs
      have et : (upd H2 tt (.tup [.ref t2, .ref t1])) tt = some (.tup [.ref t2, .ref t1]) := upd_same
      have e1 := hs _ _ e1
      have e2 := hs _ _ e2
      generalize upd H2 tt (.tup [.ref t2, .ref t1]) = H3 at hP et e1 e2 ⊢
      refine ⟨_, rfl, p, 5, rfl, by decide, by decide, hP, fun v o v0 v1 hP => ?_⟩
      have et := (upd_ne net (H := H3) (o := o)).trans et
      have e1 := (upd_ne ne1 (H := H3) (o := o)).trans e1
      have e2 := (upd_ne ne2 (H := H3) (o := o)).trans e2
      generalize upd H3 p o = H4 at hP et e1 e2 ⊢
      walk_at "rd"
      refine .inr ⟨_, rfl, ?_⟩
      obtain ⟨t, m, k, hat, e3, hk, sm, sk⟩ : ∃ (t : Addr) (m k : Int), atI [V.ref t2, V.ref t1] (if decide (V.int v = V.int 0) = true then 1 else 0) = some (.ref t) ∧ H4 t = some (.tup [.int m, .int k]) ∧ 0 < k ∧ Sm m ∧ Sm k := by
        by_cases h : v = 0
        · rw [if_pos (decide_eq_true (congrArg V.int h))]
          exact ⟨t1, n, d, rfl, e1, hd, sn, sd⟩
        · rw [if_neg (fun z => h (V.int.inj (of_decide_eq_true z)))]
          exact ⟨t2, n', d', rfl, e2, hd', sn', sd'⟩
      refine ⟨_, _, _, _, rfl, rfl, .inl (.inl et), hat, ?_⟩
      clear hat et e2 ne1 ne2 net hs hd' sn' sd' v0 v1
      have f1 : SqT K H4 t1 [.int n, .int d] := .inl (.inl e1)
      have f2 : SqT K H4 t [.int m, .int k] := .inl (.inl e3)
      clear e1 e3
      -- a, b
      walk_at "rd"
      refine fun x dx hx hdx hne => ⟨x, dx, n, d, rfl, upd_same, sm_2000 sd, fun z => absurd hd (Int.not_lt.mpr z), fun _ => ⟨rfl, ?_⟩⟩
      rw [upd_upd]
      have hs := one_of_new (C := C) (fs := [("num", .int (nrm n d).1), ("den", .int (nrm n d).2)]) hx hdx hne
      have ra : RatAt C (upd (upd H4 dx (.own x)) x (.ins C dx [("num", .int (nrm n d).1), ("den", .int (nrm n d).2)])) x (nrm n d) := ⟨dx, upd_same⟩
      have hP := hP.same hs
      have f1 := same_seqT hs f1
      have f2 := same_seqT hs f2
      generalize upd (upd H4 dx (.own x)) x (.ins C dx [("num", .int (nrm n d).1), ("den", .int (nrm n d).2)]) = H5 at hP ra f1 f2 ⊢
      clear hs hx hdx hne
      walk_at "rd"
      refine fun y dy hx hdx hne => ⟨y, dy, m, k, rfl, upd_same, sm_2000 sk, fun z => absurd hk (Int.not_lt.mpr z), fun _ => ⟨rfl, ?_⟩⟩
      rw [upd_upd]
      have hs := one_of_new (C := C) (fs := [("num", .int (nrm m k).1), ("den", .int (nrm m k).2)]) hx hdx hne
      have rb : RatAt C (upd (upd H5 dy (.own y)) y (.ins C dy [("num", .int (nrm m k).1), ("den", .int (nrm m k).2)])) y (nrm m k) := ⟨dy, upd_same⟩
      have hP := hP.same hs
      have ra := ra.same hs
      have f1 := same_seqT hs f1
      have f2 := same_seqT hs f2
      generalize upd (upd H5 dy (.own y)) y (.ins C dy [("num", .int (nrm m k).1), ("den", .int (nrm m k).2)]) = H6 at hP ra rb f1 f2 ⊢
      clear hs hx hdx hne
      -- due
      walk_at "rd"
      refine ⟨n, d, rfl, hd, Nat.lt_of_lt_of_le sn (Nat.pow_le_pow_right (by decide) (by decide)), Nat.lt_of_lt_of_le sd (Nat.pow_le_pow_right (by decide) (by decide)), fun t3 H7 _ hs e3 => ?_⟩
      have fx : Fx K C H7 p t1 t x y t3 (n, d) (m, k) := ⟨hP.same hs, same_seqT hs f1, same_seqT hs f2, ra.same hs, rb.same hs, .inl (.inl e3)⟩
      have bu : Bd (n, d) := ⟨hd, sn, sd⟩
      have bv : Bd (m, k) := ⟨hk, sm, sk⟩
      generalize (n, d) = u at fx bu
      generalize (m, k) = v at fx bv
      clear hP ra rb f1 f2 hs e3 hd sn sd hk sm sk
      have fd := fx.due
      have l1 := sm_log bu.nrm.n
      have l2 := sm_log bu.nrm.d
      have dp := bu.nrm.pos
      walk_at "rd"
      -- text
      refine ⟨fun σ' H' => σ' = [some (.ref a), some (.ref p), some (.int (0 + (i : Int))), some (.ref t1), some (.ref t), some (.ref x), some (.ref y), some (.ref t3), some (.str (ratText (nrm u.1 u.2))), z9] ∧ H' = H7, ?_, ?_⟩
      · walk_at "rd"
        refine ite2 (fun e => ?_) (fun e => ?_)
        · have e1 : ¬ (nrm u.1 u.2).2 = 1 := by
            have := of_decide_eq_true e
            omega
          have z1 : (Str.ofString (toString (nrm u.1 u.2).1)).length ≤ 1921 := int_text_len_1921 l1
          have z2 : (Str.ofString (toString (nrm u.1 u.2).2)).length ≤ 1921 := int_text_len_1921 l2
          have zs : (Str.ofString "/").length = 1 := by rfl
          have zl := sizeLine_eq
          have k1 : (Str.ofString (toString (nrm u.1 u.2).1)).length + (Str.ofString "/").length ≤ sizeLine := by omega
          have k2 : (Str.ofString (toString (nrm u.1 u.2).1) ++ Str.ofString "/").length + (Str.ofString (toString (nrm u.1 u.2).2)).length ≤ sizeLine := by
            rw [Str.length_append]
            omega
          unfold ratText
          rw [if_neg e1]
          walk_at "rd"
          first
            | exact ⟨rfl, rfl⟩
            | exact rfl
        · have e1 : (nrm u.1 u.2).2 = 1 := by
            have := of_decide_eq_false (Bool.eq_false_iff.mpr e)
            omega
          unfold ratText
          rw [if_pos e1]
          exact ⟨rfl, rfl⟩
      rintro σ' H' ⟨rfl, rfl⟩
      clear fd l1 l2
      have bun := bu.nrm
      have bvn := bv.nrm
      -- a, str(a), a + b
      refine ⟨_, rfl, _, rfl, x, t3, nrm u.1 u.2, rfl, fx.ra, fx.due, fun H8 hs => ?_⟩
      have fx := fx.same hs
      clear hs
      obtain ⟨dx, hxa⟩ := fx.ra
      walk_at "go"
      refine ⟨x, dx, _, rfl, hxa, x, nrm u.1 u.2, rfl, ⟨dx, hxa⟩, bun.n, bun.d, _, rfl, ?_⟩
      refine ⟨_, rfl, .str _, .str _, .str _, rfl, .str _, .str _, True.intro, ?_⟩
      walk_at "go"
      obtain ⟨dy, hya⟩ := fx.rb
      refine ⟨x, y, dx, _, dy, _, rfl, rfl, hxa, hya, x, y, nrm u.1 u.2, nrm v.1 v.2, rfl, ⟨dx, hxa⟩, ⟨dy, hya⟩, bun.n, bun.d, bvn.n, bvn.d, bun.pos, bvn.pos, fun r H9 _ hs hr => ?_⟩
      have fx := fx.same hs
      refine ⟨_, rfl, _, rfl, t1, t, u, v, rfl, fx.one, fx.oth, bu.n, bu.d, bv.n, bv.d, bu.pos, bv.pos, fun r' H10 _ hs2 hr' => ?_⟩
      have fx := fx.same hs2
      rw [rAdd_nrm bu.pos bv.pos] at hr
      refine ⟨r, r', _, rfl, hr.same hs2, .inl (.inl hr'), fun H11 hs3 => ?_⟩
      have fx := fx.same hs3
      clear hs hs2 hs3 hr hr' hxa hya
      walk_at "go"
      -- a - b, a * b
      obtain ⟨dx, hxa⟩ := fx.ra
      obtain ⟨dy, hya⟩ := fx.rb
      refine ⟨x, y, dx, _, dy, _, rfl, rfl, hxa, hya, x, y, nrm u.1 u.2, nrm v.1 v.2, rfl, ⟨dx, hxa⟩, ⟨dy, hya⟩, bun.n, bun.d, bvn.n, bvn.d, bun.pos, bvn.pos, fun r H9 _ hs hr => ?_⟩
      have fx := fx.same hs
      refine ⟨_, rfl, _, rfl, t1, t, u, v, rfl, fx.one, fx.oth, bu.n, bu.d, bv.n, bv.d, bu.pos, bv.pos, fun r' H10 _ hs2 hr' => ?_⟩
      have fx := fx.same hs2
      rw [rSub_nrm bu.pos bv.pos] at hr
      refine ⟨r, r', _, rfl, hr.same hs2, .inl (.inl hr'), fun H11 hs3 => ?_⟩
      have fx := fx.same hs3
      clear hs hs2 hs3 hr hr' hxa hya
      walk_at "go"
      obtain ⟨dx, hxa⟩ := fx.ra
      obtain ⟨dy, hya⟩ := fx.rb
      refine ⟨x, y, dx, _, dy, _, rfl, rfl, hxa, hya, x, y, nrm u.1 u.2, nrm v.1 v.2, rfl, ⟨dx, hxa⟩, ⟨dy, hya⟩, bun.n, bun.d, bvn.n, bvn.d, bun.pos, bvn.pos, fun r H9 _ hs hr => ?_⟩
      have fx := fx.same hs
      refine ⟨_, rfl, _, rfl, t1, t, u, v, rfl, fx.one, fx.oth, bu.n, bu.d, bv.n, bv.d, bu.pos, bv.pos, fun r' H10 _ hs2 hr' => ?_⟩
      have fx := fx.same hs2
      rw [rMul_nrm bu.pos bv.pos] at hr
      refine ⟨r, r', _, rfl, hr.same hs2, .inl (.inl hr'), fun H11 hs3 => ?_⟩
      have fx := fx.same hs3
      clear hs hs2 hs3 hr hr' hxa hya
      walk_at "go"
      -- a.less(b), a == b
      obtain ⟨dx, hxa⟩ := fx.ra
      refine ⟨x, dx, _, rfl, hxa, rfl, ?_⟩
      walk_at "go"
      refine ⟨x, y, _, _, rfl, fx.ra, fx.rb, bun.n, bun.d, bvn.n, bvn.d, ?_⟩
      refine ⟨_, rfl, _, rfl, t1, t, u, v, rfl, fx.one, fx.oth, bu.n, bu.d, bv.n, bv.d, ?_⟩
      rw [less_nrm bu.pos bv.pos]
      refine ⟨.bl _, .bl _, .bool _, rfl, .bl _, .bl _, True.intro, ?_⟩
      walk_at "go"
      obtain ⟨dy, hya⟩ := fx.rb
      refine ⟨x, y, dx, _, dy, _, rfl, rfl, hxa, hya, x, y, _, _, rfl, fx.ra, fx.rb, ?_⟩
      have f2 := fx.oth
      walk_at "go"
      refine ⟨v.1, v.2, rfl, bv.pos, Nat.lt_of_lt_of_le bv.n (Nat.pow_le_pow_right (by decide) (by decide)), Nat.lt_of_lt_of_le bv.d (Nat.pow_le_pow_right (by decide) (by decide)), fun r H12 _ hs hr => ?_⟩
      have fx := fx.same hs
      refine ⟨_, rfl, .tuple [.int (nrm v.1 v.2).1, .int (nrm v.1 v.2).2], .tuple [.int (nrm u.1 u.2).1, .int (nrm u.1 u.2).2], .tup (.inl (.inl hr)) (.cons (.int _) (.cons (.int _) .nil)), .tup fx.due (.cons (.int _) (.cons (.int _) .nil)), rfl, rfl, ?_⟩
      rw [eqv_pair]
      refine ⟨.bl _, .bl _, .bool _, rfl, .bl _, .bl _, True.intro, ?_⟩
      clear hs hr hxa hya f2
      walk_at "go"
      -- sign
      have f1 := fx.one
      have f2 := fx.oth
      walk_at "go"
      refine .inr ⟨_, rfl, ?_⟩
      walk_at "go"
      have hsg : (1 - 2 * (if decide (v.1 < 0) = true then 1 else 0) : Int) = if v.1 < 0 then -1 else 1 := by
        by_cases h : v.1 < 0
        · rw [if_pos (decide_eq_true h), if_pos h]
          rfl
        · rw [if_neg (fun z => h (of_decide_eq_true z)), if_neg h]
          rfl
      dsimp only
      generalize (1 - 2 * (if decide (v.1 < 0) = true then 1 else 0) : Int) = sg at hsg ⊢
      refine ⟨fun σ' H' => σ' = [some (.ref a), some (.ref p), some (.int (0 + (i : Int))), some (.ref t1), some (.ref t), some (.ref x), some (.ref y), some (.ref t3), some (.str (ratText (nrm u.1 u.2))), some (.int sg)] ∧ Fx K C H' p t1 t x y t3 u v, ?_, ?_⟩
      · walk_at "go"
        refine ite2 (fun e => ?_) (fun e => ?_)
        · have h0 : v.1 = 0 := V.int.inj (of_decide_eq_true e)
          walk_at "go"
          refine ⟨t1, .ref t, u, rfl, fx.one, bu.n, bu.d, .inr ⟨t, v, rfl, fx.oth, bv.n, bv.d, bu.pos, bv.pos, h0⟩, fun H13 hs => ?_⟩
          walk_at "go"
          exact fx.same hs
        · have h0 : v.1 ≠ 0 := fun z => e (decide_eq_true (congrArg V.int z))
          have hx0 : (nrm v.1 v.2).1 ≠ 0 := fun z => h0 ((nrm_sign bv.pos).2.mp z)
          obtain ⟨dx, hxa⟩ := fx.ra
          have hsb : sg.natAbs < 2 ^ 8 := by
            rw [hsg]
            split <;> decide
          have hpos : 0 < u.2 * v.1 * sg := by
            rw [hsg]
            rcases Int.lt_or_lt_of_ne h0 with h | h
            · rw [if_pos h, Int.mul_assoc]
              exact Int.mul_pos bu.pos (by omega)
            · rw [if_neg (by omega), Int.mul_one]
              exact Int.mul_pos bu.pos h
          have m1 := mulw_of bu.n bv.d
          have m2 : CMulW (u.1 * v.2) sg := wide_mul (sm_mul1 bu.n bv.d) hsb (by decide) (by decide) (by decide)
          have m3 := mulw_of bu.d bv.n
          have m4 : CMulW (u.2 * v.1) sg := wide_mul (sm_mul1 bu.d bv.n) hsb (by decide) (by decide) (by decide)
          have b1 : (u.1 * v.2 * sg).natAbs < 2 ^ 1990 := Nat.lt_of_lt_of_le (wide_lt (sm_mul1 bu.n bv.d) hsb) (Nat.pow_le_pow_right (by decide) (by decide))
          have b2 : (u.2 * v.1 * sg).natAbs < 2 ^ 1990 := Nat.lt_of_lt_of_le (wide_lt (sm_mul1 bu.d bv.n) hsb) (Nat.pow_le_pow_right (by decide) (by decide))
          walk_at "go"
          refine ⟨x, dx, _, rfl, hxa, rfl, ?_⟩
          walk_at "go"
          refine ⟨x, y, _, _, rfl, fx.ra, fx.rb, bun.n, bun.d, bvn.n, bvn.d, bun.pos, bvn.pos, fun z => absurd z hx0, fun _ r H13 _ hs hr => ?_⟩
          rw [rOver_nrm bu.pos bv.pos h0 hsg] at hr
          have fx := fx.same hs
          have f1 := fx.one
          have f2 := fx.oth
          walk_at "go"
          refine ⟨_, _, rfl, hpos, b1, b2, fun r' H14 _ hs2 hr' => ?_⟩
          have fx := fx.same hs2
          refine ⟨r, r', _, rfl, hr.same hs2, .inl (.inl hr'), fun H15 hs3 => ?_⟩
          have fx := fx.same hs3
          walk_at "go"
          exact fx
      rintro σ' H' ⟨rfl, fx⟩
      have f2 := fx.oth
      refine ⟨_, rfl, _, rfl, x, t3, nrm u.1 u.2, rfl, fx.ra, fx.due, fun H8 hs => ?_⟩
      have fx := fx.same hs
      have f2 := fx.oth
      walk_at "go"
      refine ⟨v.1, v.2, rfl, bv.pos, Nat.lt_of_lt_of_le bv.n (Nat.pow_le_pow_right (by decide) (by decide)), Nat.lt_of_lt_of_le bv.d (Nat.pow_le_pow_right (by decide) (by decide)), fun r H12 _ hs hr => ?_⟩
      have fx := fx.same hs
      refine ⟨y, r, _, rfl, fx.rb, .inl (.inl hr), fun H15 hs3 => ?_⟩
      have fx := fx.same hs3
      walk_at "go"
      exact ⟨⟨_, _, _, _, _, _, _, _, rfl⟩, fx.pool⟩
    · rintro σ' H' ⟨⟨z2, z3, z4, z5, z6, z7, z8, z9, rfl⟩, hP⟩
      walk_at "go"
      refine for_range (fun _ σ' H' => (∃ z2, σ' = [some (.ref a), some (.ref p), z2, z3, z4, z5, z6, z7, z8, z9]) ∧ Pool H' p) ⟨⟨_, rfl⟩, hP⟩ ?_ ?_
      · rintro i σ' H0 hi ⟨⟨z2, rfl⟩, hP⟩
        walk_at "go"
        refine ⟨p, _, rfl, by decide, by decide, hP, fun v o v0 v1 hP => ?_⟩
        generalize upd H0 p o = H1 at hP ⊢
        walk_at "go"
        refine ⟨p, _, rfl, by decide, by decide, hP, fun y1 o y10 y11 hP => ?_⟩
        generalize upd H1 p o = H1 at hP ⊢
        refine ⟨_, rfl, p, _, rfl, by decide, by decide, hP, fun y2 o y20 y21 hP => ?_⟩
        generalize upd H1 p o = H1 at hP ⊢
        refine ⟨(by show 2 ≤ sizeLine; decide), fun tt htt => ?_⟩
        have hP := hP.same (same_upd (o := .tup [.int y1, .int y2]) htt)
        have et : (upd H1 tt (.tup [.int y1, .int y2])) tt = some (.tup [.int y1, .int y2]) := upd_same
        generalize upd H1 tt (.tup [.int y1, .int y2]) = H2 at hP et ⊢
        obtain ⟨y, hy, y0⟩ : ∃ y : Int, atI [V.int y1, V.int y2] (0 + (i : Int)) = some (.int y) ∧ 0 ≤ y ∧ y < 2000 := by
          have h2 : i < 2 := hi
          rcases (show i = 0 ∨ i = 1 by omega) with rfl | rfl
          · exact ⟨y1, rfl, y10, by omega⟩
          · exact ⟨y2, rfl, y20, by omega⟩
        refine ⟨_, rfl, _, _, _, _, rfl, rfl, .inl (.inl et), hy, ?_⟩
        walk_at "go"
        refine ⟨(by show 2 ≤ sizeLine; decide), fun t3 ht3 => ?_⟩
        have hP := hP.same (same_upd (o := .tup [.int (v - 4), .int (0 - y)]) ht3)
        refine ⟨t3, .non, (v - 4, 0 - y), rfl, .inl (.inl upd_same), sm_small (by show -(2 ^ 64) < v - 4; omega) (by show v - 4 < 2 ^ 64; omega), sm_small (by show -(2 ^ 64) < 0 - y; omega) (by show 0 - y < 2 ^ 64; omega), .inl ⟨rfl, by show 0 - y ≤ 0; omega⟩, fun H3 hs => ?_⟩
        walk_at "go"
        exact ⟨⟨_, rfl⟩, hP.same hs⟩
      · rintro σ' H' ⟨⟨z2, rfl⟩, hP⟩
        refine fun x dx hx hdx hne => ⟨x, dx, 7, 1, rfl, upd_same, by decide, fun z => absurd z (by decide), fun _ => ⟨rfl, ?_⟩⟩
        rw [upd_upd]
        have ra : RatAt C (upd (upd H' dx (.own x)) x (.ins C dx [("num", .int (nrm 7 1).1), ("den", .int (nrm 7 1).2)])) x (7, 1) := ⟨dx, upd_same⟩
        generalize upd (upd H' dx (.own x)) x (.ins C dx [("num", .int (nrm 7 1).1), ("den", .int (nrm 7 1).2)]) = H1 at ra ⊢
        refine ⟨(by show 2 ≤ sizeLine; decide), fun t ht => ?_⟩
        refine ⟨x, t, (7, 1), rfl, ra.same (same_upd ht), .inl (.inl upd_same), fun H2 _ => ?_⟩
        walk_at "go"
        refine fun x dx hx hdx hne => ⟨x, dx, 6, 4, rfl, upd_same, by decide, fun z => absurd z (by decide), fun _ => ⟨rfl, ?_⟩⟩
        rw [upd_upd]
        have ra : RatAt C (upd (upd H2 dx (.own x)) x (.ins C dx [("num", .int (nrm 6 4).1), ("den", .int (nrm 6 4).2)])) x (3, 2) := ⟨dx, upd_same⟩
        generalize upd (upd H2 dx (.own x)) x (.ins C dx [("num", .int (nrm 6 4).1), ("den", .int (nrm 6 4).2)]) = H1 at ra ⊢
        refine ⟨(by show 2 ≤ sizeLine; decide), fun t ht => ?_⟩
        refine ⟨x, t, (3, 2), rfl, ra.same (same_upd ht), .inl (.inl upd_same), fun H3 _ => ?_⟩
        exact q _
end

/-! ### what the head says -/
def d_Ratio___init__ : He.DefD := ⟨("Ratio", some "__init__"), "__init__", "Ratio.__init__", defArgs s_Ratio___init__, defBody s_Ratio___init__, defScope s_Ratio___init__, [.int 1], []⟩
def d_Ratio___add__ : He.DefD := ⟨("Ratio", some "__add__"), "__add__", "Ratio.__add__", defArgs s_Ratio___add__, defBody s_Ratio___add__, defScope s_Ratio___add__, [], []⟩
def d_Ratio___sub__ : He.DefD := ⟨("Ratio", some "__sub__"), "__sub__", "Ratio.__sub__", defArgs s_Ratio___sub__, defBody s_Ratio___sub__, defScope s_Ratio___sub__, [], []⟩
def d_Ratio___mul__ : He.DefD := ⟨("Ratio", some "__mul__"), "__mul__", "Ratio.__mul__", defArgs s_Ratio___mul__, defBody s_Ratio___mul__, defScope s_Ratio___mul__, [], []⟩
def d_Ratio___eq__ : He.DefD := ⟨("Ratio", some "__eq__"), "__eq__", "Ratio.__eq__", defArgs s_Ratio___eq__, defBody s_Ratio___eq__, defScope s_Ratio___eq__, [], []⟩
def d_Ratio___str__ : He.DefD := ⟨("Ratio", some "__str__"), "__str__", "Ratio.__str__", defArgs s_Ratio___str__, defBody s_Ratio___str__, defScope s_Ratio___str__, [], []⟩
def d_Ratio_less : He.DefD := ⟨("Ratio", some "less"), "less", "Ratio.less", defArgs s_Ratio_less, defBody s_Ratio_less, defScope s_Ratio_less, [], []⟩
def d_Ratio_over : He.DefD := ⟨("Ratio", some "over"), "over", "Ratio.over", defArgs s_Ratio_over, defBody s_Ratio_over, defScope s_Ratio_over, [], []⟩
def d__law_pool : He.DefD := ⟨("_law_pool", none), "_law_pool", "_law_pool", defArgs s__law_pool, defBody s__law_pool, defScope s__law_pool, [], []⟩
def d__law_draw : He.DefD := ⟨("_law_draw", none), "_law_draw", "_law_draw", defArgs s__law_draw, defBody s__law_draw, defScope s__law_draw, [], []⟩
def d__law_same : He.DefD := ⟨("_law_same", none), "_law_same", "_law_same", defArgs s__law_same, defBody s__law_same, defScope s__law_same, [], []⟩
def d__law_less : He.DefD := ⟨("_law_less", none), "_law_less", "_law_less", defArgs s__law_less, defBody s__law_less, defScope s__law_less, [], []⟩
def d__law_plus : He.DefD := ⟨("_law_plus", none), "_law_plus", "_law_plus", defArgs s__law_plus, defBody s__law_plus, defScope s__law_plus, [], []⟩
def d__law_minus : He.DefD := ⟨("_law_minus", none), "_law_minus", "_law_minus", defArgs s__law_minus, defBody s__law_minus, defScope s__law_minus, [], []⟩
def d__law_times : He.DefD := ⟨("_law_times", none), "_law_times", "_law_times", defArgs s__law_times, defBody s__law_times, defScope s__law_times, [], []⟩
def d__law_below : He.DefD := ⟨("_law_below", none), "_law_below", "_law_below", defArgs s__law_below, defBody s__law_below, defScope s__law_below, [], []⟩
def d__law_is : He.DefD := ⟨("_law_is", none), "_law_is", "_law_is", defArgs s__law_is, defBody s__law_is, defScope s__law_is, [], []⟩
def d__law_refused : He.DefD := ⟨("_law_refused", none), "_law_refused", "_law_refused", defArgs s__law_refused, defBody s__law_refused, defScope s__law_refused, [], []⟩
def d__law_pair : He.DefD := ⟨("_law_pair", none), "_law_pair", "_law_pair", defArgs s__law_pair, defBody s__law_pair, defScope s__law_pair, [], []⟩
def d_law : He.DefD := ⟨("law", none), "law", "law", defArgs s_law, defBody s_law, defScope s_law, [], []⟩
def fn : List He.DefD := [d_Ratio___init__, d_Ratio___add__, d_Ratio___sub__, d_Ratio___mul__, d_Ratio___eq__, d_Ratio___str__, d_Ratio_less, d_Ratio_over, d__law_pool, d__law_draw, d__law_same, d__law_less, d__law_plus, d__law_minus, d__law_times, d__law_below, d__law_is, d__law_refused, d__law_pair, d_law]
def fa : List He.Fa := [.glo "_law_pool", .glo "_law_draw", .glo "_law_same", .glo "_law_less", .glo "_law_plus", .glo "_law_minus", .glo "_law_times", .glo "_law_below", .glo "_law_is", .glo "_law_refused", .glo "_law_pair", .glo "law", .free "len", .free "list", .free "tuple", .free "int", .free "str", .free "bool", .free "abs", .free "range", .free "isinstance", .free "min", .free "all", .free "ValueError", .cls "Ratio", .noat "Ratio" "num", .noat "Ratio" "den", .mkr "Ratio", .meth "Ratio" "less", .meth "Ratio" "over", .exc "BadRatio", .glo "GroupError", .glo "BadPaper", .glo "BadTable", .glo "BadText", .glo "NoPayments", .glo "BadRatio", .glo "Ratio", .exm "BadRatio" "GroupError" true, .meth "Ratio" "__add__", .meth "Ratio" "__sub__", .meth "Ratio" "__mul__", .meth "Ratio" "__eq__", .meth "Ratio" "__str__"]
def eqOB (a b : Option Bool) : Bool := decide (a = b)
def moreB (K : PySem.W.Frag) : Bool :=
  PySem.W.selfFirst K (He.ga K "Ratio") && (PySem.W.notFirst K (He.ga K "Ratio") (.ref (He.ga K "Ratio")) && (He.eqO (PySem.W.findIn K (.ref (He.ga K "Ratio")) "__class__") (some (some (.builtin "object.__class__"))) &&
  (He.eqO (PySem.W.specialIn K (.builtin "object.__class__") "__get__") (some (some (.builtin "getset_descriptor.__get__"))) && (eqOB (PySem.W.takesIn K (.builtin "object.__class__")) (some true) &&
  (eqOB (PySem.W.mroIn K (He.ga K "Ratio") (.type "object")) (some true) && (He.eqO (PySem.W.nsIn K mainGlobals "gcd") (some (some (.builtin "math.gcd"))) &&
  (He.eqO (PySem.W.findIn K (.ref (He.ga K "BadRatio")) "__getattribute__") (some (some (.builtin "BaseException.__getattribute__"))) && (He.eqO (PySem.W.findIn K (.ref (He.ga K "BadRatio")) "__getattr__") (some none) &&
  (PySem.W.hasDictIn K (He.ga K "BadRatio") && (He.eqO (PySem.W.findIn K (.ref (He.ga K "BadRatio")) "__class__") (some (some (.builtin "object.__class__"))) && (eqOB (PySem.W.mroIn K (He.ga K "BadRatio") (.type "object")) (some true) &&
  (eqOB (PySem.W.kitOne K (.ref (He.ga K "BadRatio")) (.type "ValueError")) (some true) && eqOB (PySem.W.kitAny K (.ref (He.ga K "BadRatio")) [.ref (He.ga K "BadPaper"), .ref (He.ga K "BadTable"), .ref (He.ga K "BadText"), .ref (He.ga K "NoPayments")]) (some false)))))))))))))
theorem callee_of {P : Program} {w : World} {K : PySem.W.Frag} {mg : Str → Option Value} {base : Heap} {CX : CXT} {x : Str} {st : Stmt} {ps : List Str} {k : Nat} {sp : Sp} {f : Addr} {fd : FuncData} (F : FnP K x st f fd) (g : mg x = some (.ref f))
    (b : ∀ (kV doc pm : Value) (an : Option Addr) (cdv ct : Value) (us : List Value), us.length = ps.length → bindArgs (PySem.W.fnOf x x (defArgs st) (defBody st) (defScope st) .none kV doc pm an cdv ct) ⟨us, []⟩ = pure (ps.zip us))
    (h : FnOk P w K mg base CX k f fd ps sp) : Callee P w K mg base CX x ps k sp := ⟨f, fd, g, F.kp, F.bindsN b, h⟩
theorem methF_of {P : Program} {w : World} {K : PySem.W.Frag} {mg : Str → Option Value} {base : Heap} {CX : CXT} {C f : Addr} {m x q : Str} {st : Stmt} {ps : List Str} {k : Nat} {sp : Sp} {fd : FuncData} (F : FnM K x q st [] f fd) (M : Meth K C m f)
    (b : ∀ (kV doc pm : Value) (an : Option Addr) (cdv ct : Value) (us : List Value), us.length = ps.length → bindArgs (PySem.W.fnOf x q (defArgs st) (defBody st) (defScope st) .none kV doc pm an cdv ct) ⟨us, []⟩ = pure (ps.zip us))
    (h : FnOk P w K mg base CX k f fd ps sp) : MethF P w K mg base CX C m k sp :=
  ⟨f, M.at_, M.fn, (h.raw (F.bindsN b) .nil).imp fun vs H Q E z => by rw [List.append_nil]; exact z⟩
theorem methC_of {P : Program} {w : World} {K : PySem.W.Frag} {mg : Str → Option Value} {base : Heap} {CX : CXT} {C f : Addr} {m x q : Str} {st : Stmt} {ps : List Str} {k : Nat} {sp : Sp} {fd : FuncData} (cl : Cls K C) (F : FnM K x q st [] f fd) (M : Meth K C m f)
    (b : ∀ (kV doc pm : Value) (an : Option Addr) (cdv ct : Value) (us : List Value), us.length = ps.length → bindArgs (PySem.W.fnOf x q (defArgs st) (defBody st) (defScope st) .none kV doc pm an cdv ct) ⟨us, []⟩ = pure (ps.zip us))
    (h : FnOk P w K mg base CX k f fd ps sp) : MethC P w K mg base CX C m ps k sp := ⟨cl, f, fd, M, F.bindsN b, h⟩
theorem end_of {P : Program} {w : World} {K : PySem.W.Frag} {h : Heap} {mg : Str → Option Value} {fa0 : Addr} (X : K.In h) (G : h.Ns mainGlobals mg) (hfa : mg ("law" : Str) = some (.ref fa0)) (c : He.SaysD fa fn K) (c2 : moreB K = true) :
    ∃ fd : FuncData, (∀ (s : Shared) (v : Value), BindsTo s fd ⟨[v], []⟩ [("script", v)]) ∧ ∀ base : Heap, K.In base → base.Ns mainGlobals mg → FnOk P w K mg base CX0 6 fa0 fd ["script"] (spLaw K) := by
  obtain ⟨fd_Ratio___init__, F0_Ratio___init__⟩ := c.def_ 0 (d := d_Ratio___init__) rfl
  have F_Ratio___init__ : FnM K "__init__" "Ratio.__init__" s_Ratio___init__ [.int 1] (He.ma K (He.ga K "Ratio") "__init__") fd_Ratio___init__ := F0_Ratio___init__
  obtain ⟨fd_Ratio___add__, F0_Ratio___add__⟩ := c.def_ 1 (d := d_Ratio___add__) rfl
  have F_Ratio___add__ : FnM K "__add__" "Ratio.__add__" s_Ratio___add__ [] (He.ma K (He.ga K "Ratio") "__add__") fd_Ratio___add__ := F0_Ratio___add__
  obtain ⟨fd_Ratio___sub__, F0_Ratio___sub__⟩ := c.def_ 2 (d := d_Ratio___sub__) rfl
  have F_Ratio___sub__ : FnM K "__sub__" "Ratio.__sub__" s_Ratio___sub__ [] (He.ma K (He.ga K "Ratio") "__sub__") fd_Ratio___sub__ := F0_Ratio___sub__
  obtain ⟨fd_Ratio___mul__, F0_Ratio___mul__⟩ := c.def_ 3 (d := d_Ratio___mul__) rfl
  have F_Ratio___mul__ : FnM K "__mul__" "Ratio.__mul__" s_Ratio___mul__ [] (He.ma K (He.ga K "Ratio") "__mul__") fd_Ratio___mul__ := F0_Ratio___mul__
  obtain ⟨fd_Ratio___eq__, F0_Ratio___eq__⟩ := c.def_ 4 (d := d_Ratio___eq__) rfl
  have F_Ratio___eq__ : FnM K "__eq__" "Ratio.__eq__" s_Ratio___eq__ [] (He.ma K (He.ga K "Ratio") "__eq__") fd_Ratio___eq__ := F0_Ratio___eq__
  obtain ⟨fd_Ratio___str__, F0_Ratio___str__⟩ := c.def_ 5 (d := d_Ratio___str__) rfl
  have F_Ratio___str__ : FnM K "__str__" "Ratio.__str__" s_Ratio___str__ [] (He.ma K (He.ga K "Ratio") "__str__") fd_Ratio___str__ := F0_Ratio___str__
  obtain ⟨fd_Ratio_less, F0_Ratio_less⟩ := c.def_ 6 (d := d_Ratio_less) rfl
  have F_Ratio_less : FnM K "less" "Ratio.less" s_Ratio_less [] (He.ma K (He.ga K "Ratio") "less") fd_Ratio_less := F0_Ratio_less
  obtain ⟨fd_Ratio_over, F0_Ratio_over⟩ := c.def_ 7 (d := d_Ratio_over) rfl
  have F_Ratio_over : FnM K "over" "Ratio.over" s_Ratio_over [] (He.ma K (He.ga K "Ratio") "over") fd_Ratio_over := F0_Ratio_over
  obtain ⟨fd__law_pool, F0__law_pool⟩ := c.def_ 8 (d := d__law_pool) rfl
  have F__law_pool : FnP K "_law_pool" s__law_pool (He.ga K "_law_pool") fd__law_pool := F0__law_pool
  obtain ⟨fd__law_draw, F0__law_draw⟩ := c.def_ 9 (d := d__law_draw) rfl
  have F__law_draw : FnP K "_law_draw" s__law_draw (He.ga K "_law_draw") fd__law_draw := F0__law_draw
  obtain ⟨fd__law_same, F0__law_same⟩ := c.def_ 10 (d := d__law_same) rfl
  have F__law_same : FnP K "_law_same" s__law_same (He.ga K "_law_same") fd__law_same := F0__law_same
  obtain ⟨fd__law_less, F0__law_less⟩ := c.def_ 11 (d := d__law_less) rfl
  have F__law_less : FnP K "_law_less" s__law_less (He.ga K "_law_less") fd__law_less := F0__law_less
  obtain ⟨fd__law_plus, F0__law_plus⟩ := c.def_ 12 (d := d__law_plus) rfl
  have F__law_plus : FnP K "_law_plus" s__law_plus (He.ga K "_law_plus") fd__law_plus := F0__law_plus
  obtain ⟨fd__law_minus, F0__law_minus⟩ := c.def_ 13 (d := d__law_minus) rfl
  have F__law_minus : FnP K "_law_minus" s__law_minus (He.ga K "_law_minus") fd__law_minus := F0__law_minus
  obtain ⟨fd__law_times, F0__law_times⟩ := c.def_ 14 (d := d__law_times) rfl
  have F__law_times : FnP K "_law_times" s__law_times (He.ga K "_law_times") fd__law_times := F0__law_times
  obtain ⟨fd__law_below, F0__law_below⟩ := c.def_ 15 (d := d__law_below) rfl
  have F__law_below : FnP K "_law_below" s__law_below (He.ga K "_law_below") fd__law_below := F0__law_below
  obtain ⟨fd__law_is, F0__law_is⟩ := c.def_ 16 (d := d__law_is) rfl
  have F__law_is : FnP K "_law_is" s__law_is (He.ga K "_law_is") fd__law_is := F0__law_is
  obtain ⟨fd__law_refused, F0__law_refused⟩ := c.def_ 17 (d := d__law_refused) rfl
  have F__law_refused : FnP K "_law_refused" s__law_refused (He.ga K "_law_refused") fd__law_refused := F0__law_refused
  obtain ⟨fd__law_pair, F0__law_pair⟩ := c.def_ 18 (d := d__law_pair) rfl
  have F__law_pair : FnP K "_law_pair" s__law_pair (He.ga K "_law_pair") fd__law_pair := F0__law_pair
  obtain ⟨fd_law, F0_law⟩ := c.def_ 19 (d := d_law) rfl
  have F_law : FnP K "law" s_law (He.ga K "law") fd_law := F0_law
  have gl__law_pool : mg "_law_pool" = some (.ref (He.ga K "_law_pool")) := He.glo_ok X G (c.fact 0 (f := .glo "_law_pool") rfl)
  have gl__law_draw : mg "_law_draw" = some (.ref (He.ga K "_law_draw")) := He.glo_ok X G (c.fact 1 (f := .glo "_law_draw") rfl)
  have gl__law_same : mg "_law_same" = some (.ref (He.ga K "_law_same")) := He.glo_ok X G (c.fact 2 (f := .glo "_law_same") rfl)
  have gl__law_less : mg "_law_less" = some (.ref (He.ga K "_law_less")) := He.glo_ok X G (c.fact 3 (f := .glo "_law_less") rfl)
  have gl__law_plus : mg "_law_plus" = some (.ref (He.ga K "_law_plus")) := He.glo_ok X G (c.fact 4 (f := .glo "_law_plus") rfl)
  have gl__law_minus : mg "_law_minus" = some (.ref (He.ga K "_law_minus")) := He.glo_ok X G (c.fact 5 (f := .glo "_law_minus") rfl)
  have gl__law_times : mg "_law_times" = some (.ref (He.ga K "_law_times")) := He.glo_ok X G (c.fact 6 (f := .glo "_law_times") rfl)
  have gl__law_below : mg "_law_below" = some (.ref (He.ga K "_law_below")) := He.glo_ok X G (c.fact 7 (f := .glo "_law_below") rfl)
  have gl__law_is : mg "_law_is" = some (.ref (He.ga K "_law_is")) := He.glo_ok X G (c.fact 8 (f := .glo "_law_is") rfl)
  have gl__law_refused : mg "_law_refused" = some (.ref (He.ga K "_law_refused")) := He.glo_ok X G (c.fact 9 (f := .glo "_law_refused") rfl)
  have gl__law_pair : mg "_law_pair" = some (.ref (He.ga K "_law_pair")) := He.glo_ok X G (c.fact 10 (f := .glo "_law_pair") rfl)
  have gl_law : mg "law" = some (.ref (He.ga K "law")) := He.glo_ok X G (c.fact 11 (f := .glo "law") rfl)
  have fr_len : mg "len" = none := He.free_ok X G (c.fact 12 (f := .free "len") rfl)
  have fr_list : mg "list" = none := He.free_ok X G (c.fact 13 (f := .free "list") rfl)
  have fr_tuple : mg "tuple" = none := He.free_ok X G (c.fact 14 (f := .free "tuple") rfl)
  have fr_int : mg "int" = none := He.free_ok X G (c.fact 15 (f := .free "int") rfl)
  have fr_str : mg "str" = none := He.free_ok X G (c.fact 16 (f := .free "str") rfl)
  have fr_bool : mg "bool" = none := He.free_ok X G (c.fact 17 (f := .free "bool") rfl)
  have fr_abs : mg "abs" = none := He.free_ok X G (c.fact 18 (f := .free "abs") rfl)
  have fr_range : mg "range" = none := He.free_ok X G (c.fact 19 (f := .free "range") rfl)
  have fr_isinstance : mg "isinstance" = none := He.free_ok X G (c.fact 20 (f := .free "isinstance") rfl)
  have fr_min : mg "min" = none := He.free_ok X G (c.fact 21 (f := .free "min") rfl)
  have fr_all : mg "all" = none := He.free_ok X G (c.fact 22 (f := .free "all") rfl)
  have fr_ValueError : mg "ValueError" = none := He.free_ok X G (c.fact 23 (f := .free "ValueError") rfl)
  have cl_Ratio := He.cls_ok (c.fact 24 (f := .cls "Ratio") rfl)
  have na_Ratio_num := He.noat_ok (c.fact 25 (f := .noat "Ratio" "num") rfl)
  have na_Ratio_den := He.noat_ok (c.fact 26 (f := .noat "Ratio" "den") rfl)
  have mk_Ratio := He.mkr_ok (c.fact 27 (f := .mkr "Ratio") rfl)
  have me_Ratio_less := He.meth_ok (c.fact 28 (f := .meth "Ratio" "less") rfl)
  have me_Ratio_over := He.meth_ok (c.fact 29 (f := .meth "Ratio" "over") rfl)
  have xc_BadRatio := He.exc_ok (c.fact 30 (f := .exc "BadRatio") rfl)
  have gl_GroupError : mg "GroupError" = some (.ref (He.ga K "GroupError")) := He.glo_ok X G (c.fact 31 (f := .glo "GroupError") rfl)
  have gl_BadPaper : mg "BadPaper" = some (.ref (He.ga K "BadPaper")) := He.glo_ok X G (c.fact 32 (f := .glo "BadPaper") rfl)
  have gl_BadTable : mg "BadTable" = some (.ref (He.ga K "BadTable")) := He.glo_ok X G (c.fact 33 (f := .glo "BadTable") rfl)
  have gl_BadText : mg "BadText" = some (.ref (He.ga K "BadText")) := He.glo_ok X G (c.fact 34 (f := .glo "BadText") rfl)
  have gl_NoPayments : mg "NoPayments" = some (.ref (He.ga K "NoPayments")) := He.glo_ok X G (c.fact 35 (f := .glo "NoPayments") rfl)
  have gl_BadRatio : mg "BadRatio" = some (.ref (He.ga K "BadRatio")) := He.glo_ok X G (c.fact 36 (f := .glo "BadRatio") rfl)
  have gl_Ratio : mg "Ratio" = some (.ref (He.ga K "Ratio")) := He.glo_ok X G (c.fact 37 (f := .glo "Ratio") rfl)
  have xm_BadRatio_GroupError := He.exm_ok (c.fact 38 (f := .exm "BadRatio" "GroupError" true) rfl)
  have me_Ratio___add__ := He.meth_ok (c.fact 39 (f := .meth "Ratio" "__add__") rfl)
  have me_Ratio___sub__ := He.meth_ok (c.fact 40 (f := .meth "Ratio" "__sub__") rfl)
  have me_Ratio___mul__ := He.meth_ok (c.fact 41 (f := .meth "Ratio" "__mul__") rfl)
  have me_Ratio___eq__ := He.meth_ok (c.fact 42 (f := .meth "Ratio" "__eq__") rfl)
  have me_Ratio___str__ := He.meth_ok (c.fact 43 (f := .meth "Ratio" "__str__") rfl)
  have M : MB mg := ⟨fr_len, fr_list, fr_tuple, fr_int, fr_str, fr_bool, fr_abs, fr_range, fr_isinstance, fr_min, fr_all, fr_ValueError⟩
  have e := hfa.symm.trans gl_law
  cases e
  unfold moreB at c2
  obtain ⟨m1, c2⟩ := He.ba c2
  obtain ⟨m2, c2⟩ := He.ba c2
  obtain ⟨m3, c2⟩ := He.ba c2
  obtain ⟨m4, c2⟩ := He.ba c2
  obtain ⟨m5, c2⟩ := He.ba c2
  obtain ⟨m6, c2⟩ := He.ba c2
  obtain ⟨m7, c2⟩ := He.ba c2
  obtain ⟨m8, c2⟩ := He.ba c2
  obtain ⟨m9, c2⟩ := He.ba c2
  obtain ⟨m10, c2⟩ := He.ba c2
  obtain ⟨m11, c2⟩ := He.ba c2
  obtain ⟨m12, c2⟩ := He.ba c2
  obtain ⟨m13, m14⟩ := He.ba c2
  have T : RatT K mg (He.ga K "Ratio") (He.ga K "BadRatio") :=
    { cl := cl_Ratio, nN := na_Ratio_num, nD := na_Ratio_den, gC := gl_Ratio, sf := m1, nf := m2, ha := He.eqO_ok m3, hn := He.eqO_ok m4, ht := of_decide_eq_true m5, hm := of_decide_eq_true m6,
      gB := gl_BadRatio, xB := xc_BadRatio.1, kB := xc_BadRatio.2.1, bB := xc_BadRatio.2.2.1, tB := xc_BadRatio.2.2.2, gg := PySem.W.mg_of X G (He.eqO_ok m7) }
  have U : ErrT K mg (He.ga K "BadRatio") (He.ga K "GroupError") (He.ga K "BadPaper") (He.ga K "BadTable") (He.ga K "BadText") (He.ga K "NoPayments") :=
    { gG := gl_GroupError, g1 := gl_BadPaper, g2 := gl_BadTable, g3 := gl_BadText, g4 := gl_NoPayments, ex := xm_BadRatio_GroupError,
      xc := { hg := He.eqO_ok m8, hk := He.eqO_ok m9, hs := xc_BadRatio.2.2.1, hd := m10, ha := He.eqO_ok m11, hn := He.eqO_ok m4, ht := of_decide_eq_true m5, hm := of_decide_eq_true m12 },
      k1 := by
        unfold PySem.W.kitOne
        rw [if_pos (beq_self_eq_true _)],
      k2 := of_decide_eq_true m13, k3 := of_decide_eq_true m14 }
  have b := FunD.bindsA (ps := ["script"]) F_law fun _ _ _ _ _ _ us hl => match us, hl with | [_], _ => rfl
  refine ⟨fd_law, fun s v => b s [v] rfl, fun base _ _ => ?_⟩
  have oi : FnOk P w K mg base (L2.CX P w) 1 (He.ma K (He.ga K "Ratio") "__init__") fd_Ratio___init__ ["self", "num", "den"] (spInit (He.ga K "Ratio") (He.ga K "BadRatio")) := ok_Ratio_init T F_Ratio___init__
  have MR : MakeF P w K mg base (L2.CX P w) "Ratio" (He.ga K "Ratio") ["self", "num", "den"] [] 1 (spInit (He.ga K "Ratio") (He.ga K "BadRatio")) := by
    obtain ⟨ds, h1, h2⟩ := FunD.binds1 (ps := ["self", "num", "den"]) F_Ratio___init__ 3 1 (List.cons_ne_nil _ _) rfl fun T kV doc pm an cdv ct us its h1 h2 => match us, its, h1, h2 with | [_, _, _], [_], _, _ => ⟨_, rfl, rfl⟩
    exact ⟨gl_Ratio, _, _, ds, mk_Ratio, h1, h2, oi⟩
  have M1 : MakeF P w K mg base (L2.CX P w) "Ratio" (He.ga K "Ratio") ["self", "num", "den"] [.int 1] 1 (spInit (He.ga K "Ratio") (He.ga K "BadRatio")) := by
    obtain ⟨ds, h1, h2⟩ := FunD.binds1 (ps := ["self", "num", "den"]) F_Ratio___init__ 2 0 (List.cons_ne_nil _ _) rfl fun T kV doc pm an cdv ct us its h1 h2 => match us, its, h1, h2 with | [_, _], [_], _, _ => ⟨_, rfl, rfl⟩
    exact ⟨gl_Ratio, _, _, ds, mk_Ratio, h1, h2, oi⟩
  have MK : MakeKw P w K mg base (L2.CX P w) "Ratio" (He.ga K "Ratio") ["self", "num", "den"] ["num", "den"] (fun vs zs => vs ++ zs) 1 (spInit (He.ga K "Ratio") (He.ga K "BadRatio")) := by
    obtain ⟨its, h⟩ := FunD.kbindsD (ps := ["self", "num", "den"]) F_Ratio___init__ 1 ["num", "den"] (fun us _ ws => us ++ ws) (List.cons_ne_nil _ _) (fun r1 _ r3 => r1.append r3)
      fun T kV doc pm an cdv ct us its ws h1 h2 h3 => match us, its, ws, h1, h2, h3 with | [_], [_], [_, _], _, _, _ => ⟨_, rfl, rfl⟩
    exact ⟨gl_Ratio, _, _, _, mk_Ratio, h, oi⟩
  have cDraw : Callee P w K mg base CX0 "_law_draw" ["pool", "size"] 1 spDraw := callee_of F__law_draw gl__law_draw (fun _ _ _ _ _ _ us hl => match us, hl with | [_, _], _ => rfl) (ok__law_draw M F__law_draw)
  have cLess : Callee P w K mg base CX0 "_law_less" ["num", "den"] 1 spLless := callee_of F__law_less gl__law_less (fun _ _ _ _ _ _ us hl => match us, hl with | [_, _], _ => rfl) (ok__law_less M F__law_less)
  have cSame : Callee P w K mg base CX0 "_law_same" ["actual", "due"] 3 (spSame K 2) := callee_of F__law_same gl__law_same (fun _ _ _ _ _ _ us hl => match us, hl with | [_, _], _ => rfl) (ok__law_same M F__law_same gl__law_same 2)
  have cOver : MethC P w K mg base (L2.CX P w) (He.ga K "Ratio") "over" ["self", "other"] 3 (spOver (He.ga K "Ratio") (He.ga K "BadRatio")) := methC_of cl_Ratio F_Ratio_over me_Ratio_over (fun _ _ _ _ _ _ us hl => match us, hl with | [_, _], _ => rfl) (ok_Ratio_over T F_Ratio_over MR)
  refine ok_law T M ?_ F_law
  exact {
    pool := callee_of F__law_pool gl__law_pool (fun _ _ _ _ _ _ us hl => match us, hl with | [_, _], _ => rfl) (ok__law_pool M F__law_pool)
    draw := cDraw
    pair := callee_of F__law_pair gl__law_pair (fun _ _ _ _ _ _ us hl => match us, hl with | [_], _ => rfl) (ok__law_pair M F__law_pair cDraw)
    less := cLess
    plus := callee_of F__law_plus gl__law_plus (fun _ _ _ _ _ _ us hl => match us, hl with | [_, _], _ => rfl) (ok__law_plus F__law_plus cLess)
    minus := callee_of F__law_minus gl__law_minus (fun _ _ _ _ _ _ us hl => match us, hl with | [_, _], _ => rfl) (ok__law_minus F__law_minus cLess)
    times := callee_of F__law_times gl__law_times (fun _ _ _ _ _ _ us hl => match us, hl with | [_, _], _ => rfl) (ok__law_times F__law_times cLess)
    below := callee_of F__law_below gl__law_below (fun _ _ _ _ _ _ us hl => match us, hl with | [_, _], _ => rfl) (ok__law_below F__law_below)
    is_ := callee_of F__law_is gl__law_is (fun _ _ _ _ _ _ us hl => match us, hl with | [_, _], _ => rfl) (ok__law_is T M F__law_is cSame)
    same := cSame
    refused := callee_of F__law_refused gl__law_refused (fun _ _ _ _ _ _ us hl => match us, hl with | [_, _], _ => rfl) (ok__law_refused T U M F__law_refused MR cOver)
    MR := MR
    M1 := M1
    MK := MK
    add := methF_of F_Ratio___add__ me_Ratio___add__ (fun _ _ _ _ _ _ us hl => match us, hl with | [_, _], _ => rfl) (ok_Ratio_add T F_Ratio___add__ MR)
    sub := methF_of F_Ratio___sub__ me_Ratio___sub__ (fun _ _ _ _ _ _ us hl => match us, hl with | [_, _], _ => rfl) (ok_Ratio_sub T F_Ratio___sub__ MR)
    mul := methF_of F_Ratio___mul__ me_Ratio___mul__ (fun _ _ _ _ _ _ us hl => match us, hl with | [_, _], _ => rfl) (ok_Ratio_mul T F_Ratio___mul__ MR)
    eq := methF_of F_Ratio___eq__ me_Ratio___eq__ (fun _ _ _ _ _ _ us hl => match us, hl with | [_, _], _ => rfl) (ok_Ratio_eq T M F_Ratio___eq__)
    str := methF_of F_Ratio___str__ me_Ratio___str__ (fun _ _ _ _ _ _ us hl => match us, hl with | [_], _ => rfl) (ok_Ratio_str T M F_Ratio___str__)
    lss := methC_of cl_Ratio F_Ratio_less me_Ratio_less (fun _ _ _ _ _ _ us hl => match us, hl with | [_, _], _ => rfl) (ok_Ratio_less T F_Ratio_less)
    over := cOver }

end NG
open PySem PySem.W PyProof.Rows
set_option maxHeartbeats 0 in
theorem PySem.Challenge.cw_nogroupleaves_k00_fractions_holds : PySem.Challenge.rw_nogroupleaves_k00_fractions.Holds := by
  refine NG.hd ?_
  k_fill
  refine L2.walk_of (l := PySem.Challenge.rw_nogroupleaves_k00_fractions) (n := 63) (k := 6) (x := "script") (CX := fun _ => L2.CX0) (sp := fun w => NG.spLaw _) rfl (by decide) rfl ⟨rfl, by decide, by decide⟩ (fun w h Y => PySem.W.kIn_of Y) ?F (fun _ _ a ns hl _ hS => ⟨a, ns, rfl, hS, fun _ => rfl⟩) (fun _ _ _ _ _ h => h)
  case F =>
    intro w mg fa h KX G hmg
    have c : He.SaysD NG.fa NG.fn (L2.KOf KX) := by
      show He.obsD NG.fa NG.fn (L2.KOf KX) = He.valD NG.fn
      kernel_rfl
    have c2 : NG.moreB (L2.KOf KX) = true := by kernel_rfl
    exact NG.end_of KX G hmg c c2
