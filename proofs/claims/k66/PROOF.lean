import PyProof.Rows.All
import Wide.All
import OpenK.AllK
import Wide.FinOn
import KE.KNest
import KE.KNestM
import HandS.ForMost
import HandS.HeadHook2
import HandS.HeadHook4
import HandS.Head2
import HandS.HeadEnd
import HandS.Walk
import HandS.ExcValue
import HandS.IsInst
import HandS.Iter
import KE.GoesMore
import PyProof.EnumMake
import HandS.Text
import HandS.List
import HandS.Conv
import HandS.SortInts
import HandS.TupMul
import HandS.Dict
import HandS.Sort
import PyProof.DictWalks
import PyProof.WalkInts
import KE.KDictSum
import KE.SortData
import HandS.Zip
import HandS.TupAny
import HandS.TupLe
import HandS.DictComp
import HandS.ListItems
import KE.KDictList
import PyProof.DictValues
import HandS.ExcInit
import HandS.Nested
import KE.KExcSuper
import HandS.ExcField
import KE.KExcIs
import HandS.Lambda
import HandS.RaiseMore
import HandS.WordsExc
import HandS.SetFor
import HandS.WordsDict
import KE.KDictCopyH
import HandS.EndTab
import HandS.NestedK
import PyProof.ReprBulk
import HandS.Defaults
import HandS.MakeKwOnly
import PySem.Challenge.RW_stillknown_k66_checks_and_changes
set_option Elab.async false
set_option linter.all false
set_option maxRecDepth 100000
-- part THr
set_option maxHeartbeats 0
/-! What the law's top leaves on the heap, looked at by names, and the run of that top. -/
namespace Hk
open PySem PySem.Spec PyProof.Rows L2
def tS (i : Nat) : Stmt := PySem.Challenge.pw_stillknown_k66_checks_and_changes.main.body.getD i (.Pass ⟨0, 0, 0, 0⟩)
def vTail : List Value := [.type "ValueError", .type "Exception", .type "BaseException", .type "object"]
def eqM (a b : Option (List Value)) : Bool := decide (a = b)
/-- a class of errors, as isinstance and the making ask -/
def basB (K : PySem.W.Frag) (C : Addr) : Bool :=
  decide (PySem.W.typeIn K (.ref C) = some (.type "type")) && (PySem.W.keepIn K (.ref C) && ((PySem.W.clsIn K C).isSome && (He.eqO (PySem.W.findIn K (.ref C) "__getattribute__") (some (some (.builtin "BaseException.__getattribute__"))) &&
  (He.eqO (PySem.W.findIn K (.ref C) "__getattr__") (some none) && (He.eqO (PySem.W.findIn K (.ref C) "__class__") (some (some (.builtin "object.__class__"))) && PySem.W.hasDictIn K C)))))
def mroB (K : PySem.W.Frag) (C : Addr) (l : List Value) : Bool := eqM ((PySem.W.clsIn K C).map (·.mro)) (some l)
/-- facts that no class has of its own -/
def genB (K : PySem.W.Frag) : Bool :=
  He.eqO (PySem.W.specialIn K (.builtin "object.__class__") "__get__") (some (some (.builtin "getset_descriptor.__get__"))) && (decide (PySem.W.takesIn K (.builtin "object.__class__") = some true) &&
  (He.eqO (PySem.W.nsIn K cStatics "thirdparty.any") (some none) && (K.lookup sysModules).isSome))
def bS : Str := "StillError"
/-- the package's errors, as the law asks for them -/
def EN : List Str := ["BadTuples", "BadCount", "BadChecks", "BadSeat"]
def errB (K : PySem.W.Frag) (x : Str) : Bool :=
  (He.Fa.glo x).ok K && (basB K (He.ga K x) && (mroB K (He.ga K x) ([.ref (He.ga K x), .ref (He.ga K bS)] ++ vTail) && (PySem.W.excIn K (He.ga K x) vTail "ValueError.__new__" && (decide (PySem.W.subIn K (.ref (He.ga K x)) (.type "BaseException") = some true) && decide (PySem.W.exmOne K (.ref (He.ga K x)) (.ref (He.ga K bS)) = some true)))))
def apartB (K : PySem.W.Frag) : Bool := decide (((bS :: EN).map (He.ga K)).Nodup)
/-! ### defs by their addresses -/
structure DQ where
  adr : PySem.W.Frag → Addr
  name : Str
  qual : Str
  st : Stmt
def fObs (K : PySem.W.Frag) (a : Addr) : He.FnV := match K.lookup a with
  | some ⟨_, _, .func fd, _⟩ => some (fd.name, fd.qualname, fd.params, fd.body, fd.scope, fd.globals, fd.closure, fd.defaults, fd.builtins)
  | _ => none
def DQ.val (d : DQ) : He.FnV := some (d.name, d.qual, defArgs d.st, .stmts (defBody d.st), defScope d.st, mainGlobals, [], .none, builtinsNs)
def cdq (K : PySem.W.Frag) (a : Addr) : Addr := match K.lookup a with
  | some ⟨_, _, .func fd, _⟩ => (match fd.code with
    | .ref c => c
    | _ => 0)
  | _ => 0
def isF (K : PySem.W.Frag) (a : Addr) : Bool := match K.lookup a with
  | some ⟨_, _, .func fd, _⟩ => (match fd.code with
    | .ref _ => true
    | _ => false)
  | _ => false
def DQ.ok (K : PySem.W.Frag) (d : DQ) : Bool := PySem.W.codeIn K (.ref (cdq K (d.adr K))) d.qual && (PySem.W.keepIn K (.ref (d.adr K)) && isF K (d.adr K))
/-! ### tables -/
def tbq (K : PySem.W.Frag) (x : Str) : Addr := He.tabOf K (cdq K (He.ga K x))
def TN : List Str := ["_law_refused_right"]
def tabK (K : PySem.W.Frag) : Bool := TN.all fun x => PySem.W.codeHdIn K (cdq K (He.ga K x)) (tbq K x) && (K.lookup (tbq K x)).isNone
def tabG (g : Addr → Option Obj) (K : PySem.W.Frag) : Bool := TN.all fun x => match g (tbq K x) with
  | some o => He.emptyTab o
  | none => false
/-! ### all of it -/
def MD : List (Str × Nat) :=
  ([("is_number", 7), ("is_within", 8), ("is_list", 9), ("is_tuple_of", 10), ("are_numbers", 12), ("is_seat", 18), ("is_tuple_of_numbers", 19), ("are_alike_wide", 20), ("are_seated", 21), ("are_tuples", 22), ("are_checks", 23), ("raised", 24), ("plus_times", 25), ("all_checks", 26), ("check_tuples", 28)] : List (Str × Nat)) ++
  ([("check_count", 29), ("checks_of", 30), ("after_change", 31), ("_law_begun", 33), ("_law_mixed", 34), ("_law_take", 35), ("_law_pick", 36), ("_law_shuffled", 37), ("_law_caught", 38), ("_law_number", 39), ("_law_tuples", 40), ("_law_power", 41), ("_law_check", 42), ("_law_word", 43), ("_law_refused_right", 44)] : List (Str × Nat)) ++
  ([("law", 45)] : List (Str × Nat))
def mdD (p : Str × Nat) : DQ := ⟨fun K => He.ga K p.1, p.1, p.1, tS p.2⟩
def fq : List DQ := MD.map mdD
def fa : List He.Fa := ([.free "isinstance", .free "int", .free "bool", .free "list", .free "tuple", .free "dict", .free "len", .free "all", .free "min", .free "sorted", .free "range", .free "enumerate", .free "repr", .free "abs", .free "sum", .free "zip"] : List He.Fa) ++
  ([.glo bS, .int "MOST_SEATS" 8, .int "HIGHEST_SEAT" 9, .int "WIDEST" 45, .int "MOST_CHECKS" 4] : List He.Fa)
def chk (K : PySem.W.Frag) : Bool :=
  genB K && ((basB K (He.ga K bS) && mroB K (He.ga K bS) ([.ref (He.ga K bS)] ++ vTail)) && (EN.all (errB K) && (apartB K && (tabK K &&
  (fa.all (fun f => f.ok K) && (MD.all (fun p => (He.Fa.glo p.1).ok K) && fq.all (fun d => d.ok K)))))))
abbrev AlK : Type := Bool × List He.FnV
def obsK (g : Addr → Option Obj) (K : PySem.W.Frag) : AlK := (chk K && tabG g K, fq.map (fun d => fObs K (d.adr K)))
def valK : AlK := (true, fq.map DQ.val)
/-- what an object of the top holds on to, as far as the looks go -/
def own (o : Obj) : List Addr := match o.data with
  | .cls cd => [cd.ns]
  | .func fd => He.refV fd.code ++ fd.closure.map (·.2)
  | .dict es _ => es.toList.flatMap fun e => He.refV e.val
  | .fields vs => (match o.cls with
    | .type n => if n == "property" then vs.toList.flatMap He.refV else []
    | _ => [])
  | _ => []
def lay (g : Addr → Option Obj) (as : List Addr) : List Addr := as.flatMap fun a => match g a with
  | some o => own o
  | none => []
def tops (g : Addr → Option Obj) : Nat → List Addr → List Addr
  | 0, as => as
  | n + 1, as => as ++ tops g n (lay g as)
def frK (g : Addr → Option Obj) : PySem.W.Frag := He.frG g ([mainGlobals, cStatics, sysModules] ++ tops g 4 (lay g [mainGlobals]))
/-- what the end leans on -/
structure SaysK (h : Heap) (K : PySem.W.Frag) : Prop where
  ck : chk K = true
  fs : fq.map (fun d => fObs K (d.adr K)) = fq.map DQ.val
  tb : ∀ x ∈ TN, h.get? (tbq K x) = some { cls := .none, data := .fields #[] }
theorem says_of {h : Heap} {K : PySem.W.Frag} (e : obsK h.get? K = valK) : SaysK h K := by
  have e1 : (chk K && tabG h.get? K) = true := congrArg (fun z : AlK => z.1) e
  obtain ⟨c1, c2⟩ := He.ba e1
  refine ⟨c1, congrArg (fun z : AlK => z.2) e, fun x hx => ?_⟩
  have z := List.all_eq_true.mp c2 x hx
  cases q : h.get? (tbq K x) with
  | none =>
    rw [q] at z
    cases z
  | some o =>
    rw [q] at z
    rw [He.emptyTab_eq z]
def hookK : PySem.W.Hook where
  α := AlK
  obs := fun s => obsK s.heap.get? (frK s.heap.get?)
  val := fun _ => valK
  says := fun _ h => ∃ K : PySem.W.Frag, K.In h ∧ SaysK h K
  of := fun _ _ e => ⟨_, He.frG_in, says_of e⟩
  keeps := fun _ _ _ ⟨K, hK, c⟩ k => ⟨K, PySem.W.Frag.In.keeps hK k, ⟨c.ck, c.fs, fun x hx => k _ _ (c.tb x hx)⟩⟩
theorem obsK_eq {g : Addr → Option Obj} {s : Shared} (h : ∀ a, g a = s.heap.get? a) : obsK g (frK g) = hookK.obs s := by
  have e : g = s.heap.get? := funext h
  rw [e] <;> rfl
def loose : List Str :=
  (["StillError", "BadTuples", "BadChecks", "BadCount", "BadSeat", "is_number", "is_within", "is_list", "is_tuple_of", "are_numbers"] : List Str) ++
  (["MOST_SEATS", "HIGHEST_SEAT", "WIDEST", "MOST_CHECKS", "is_seat", "is_tuple_of_numbers", "are_alike_wide", "are_seated", "are_tuples", "are_checks"] : List Str) ++
  (["raised", "plus_times", "all_checks", "check_tuples", "check_count", "checks_of", "after_change", "_law_begun", "_law_mixed", "_law_take"] : List Str) ++
  (["_law_pick", "_law_shuffled", "_law_caught", "_law_number", "_law_tuples", "_law_power", "_law_check", "_law_word", "_law_refused_right"] : List Str)
abbrev RW : PySem.W.OpenLaw := PySem.Challenge.rw_stillknown_k66_checks_and_changes
abbrev R : PySem.W.OpenRow := PySem.W.OpenLaw.row RW
abbrev hk : PySem.W.Hook := hookK
def ob (s : PySem.W.SharedT) : AlK := obsK (HandSHeadRun.getT s) (frK (HandSHeadRun.getT s))
theorem ob_eq (s : PySem.W.SharedT) : ob s = hk.obs s.abs := obsK_eq (HandSHeadRun.getT_eq s)
theorem run (w : World) : HandSHeadRun.RunEq R (PySem.W.view R.prog [45]) hk ob 6000 loose w := by
  intro os
  kernel_rfl
end Hk
-- part Dr

set_option maxHeartbeats 4000000
namespace Kn
open PySem PySem.Spec PyProof.Rows L2
def topS (i : Nat) : Stmt := PySem.Challenge.pw_stillknown_k66_checks_and_changes.main.body.getD i (.Pass ⟨0, 0, 0, 0⟩)
abbrev sBegun : Stmt := topS 33
abbrev sMixed : Stmt := topS 34
abbrev sTake : Stmt := topS 35
abbrev sPick : Stmt := topS 36
/-- the draws as a dict -/
abbrev kLarge : Key := Sum.inr "large"
abbrev kRest : Key := Sum.inr "rest"
abbrev kCells : Key := Sum.inr "cells"
abbrev kTurn : Key := Sum.inr "turn"
def dkv (l c : Addr) (r t : Int) : List (Key × V) := [(kLarge, .ref l), (kRest, .int r), (kCells, .ref c), (kTurn, .int t)]
theorem v_large (l c : Addr) (r t : Int) : valV (dkv l c r t) kLarge = some (.ref l) := by kernel_rfl
theorem v_rest (l c : Addr) (r t : Int) : valV (dkv l c r t) kRest = some (.int r) := by kernel_rfl
theorem v_cells (l c : Addr) (r t : Int) : valV (dkv l c r t) kCells = some (.ref c) := by kernel_rfl
theorem v_turn (l c : Addr) (r t : Int) : valV (dkv l c r t) kTurn = some (.int t) := by kernel_rfl
theorem p_rest (l c : Addr) (r t r' : Int) : putK (dkv l c r t) kRest (.int r') = dkv l c r' t := by kernel_rfl
theorem p_turn (l c : Addr) (r t t' : Int) : putK (dkv l c r t) kTurn (.int t') = dkv l c r t' := by kernel_rfl
def Ints (H : Hp) (a : Addr) : Prop := ∃ ns : List Int, H a = some (.lst (ns.map V.int))
structure Drw (H : Hp) (d l c : Addr) : Prop where
  dd : ∃ r t : Int, H d = some (.dK (dkv l c r t))
  ll : Ints H l
  cc : Ints H c
  lc : l ≠ c
/-- all that was tracked stands as it stood, but at the draws -/
def But (d l : Addr) (H H' : Hp) : Prop := ∀ b o, H b = some o → b ≠ d → b ≠ l → H' b = some o
section
variable {H H' : Hp} {d l c : Addr} {r t : Int}
theorem g_large (h : H d = some (.dK (dkv l c r t))) : DGet H d (.str "large") (some (.ref l)) := v_large l c r t ▸ DGet.k (k := kLarge) h
theorem g_rest (h : H d = some (.dK (dkv l c r t))) : DGet H d (.str "rest") (some (.int r)) := v_rest l c r t ▸ DGet.k (k := kRest) h
theorem g_cells (h : H d = some (.dK (dkv l c r t))) : DGet H d (.str "cells") (some (.ref c)) := v_cells l c r t ▸ DGet.k (k := kCells) h
theorem g_turn (h : H d = some (.dK (dkv l c r t))) : DGet H d (.str "turn") (some (.int t)) := v_turn l c r t ▸ DGet.k (k := kTurn) h
theorem q_rest {r' : Int} (h : H d = some (.dK (dkv l c r t))) : DPut H d (.str "rest") (.int r') (upd H d (.dK (dkv l c r' t))) := by
  have e := DPut.k (k := kRest) (v := .int r') h (by show 4 < sizeLine; decide)
  rw [p_rest] at e
  exact e
theorem q_turn {t' : Int} (h : H d = some (.dK (dkv l c r t))) : DPut H d (.str "turn") (.int t') (upd H d (.dK (dkv l c r t'))) := by
  have e := DPut.k (k := kTurn) (v := .int t') h (by show 4 < sizeLine; decide)
  rw [p_turn] at e
  exact e
theorem Drw.nl (D : Drw H d l c) : l ≠ d := by
  obtain ⟨⟨r, t, h⟩, ⟨ns, hl⟩, _, _⟩ := D
  exact ne_of hl h (by intro z; cases z)
theorem Drw.nc (D : Drw H d l c) : c ≠ d := by
  obtain ⟨⟨r, t, h⟩, _, ⟨ns, hc⟩, _⟩ := D
  exact ne_of hc h (by intro z; cases z)
/-- the dict is stored anew -/
theorem Drw.put (D : Drw H d l c) (r t : Int) : Drw (upd H d (.dK (dkv l c r t))) d l c :=
  ⟨⟨r, t, upd_same⟩, by obtain ⟨ns, e⟩ := D.ll; exact ⟨ns, by rw [upd_ne D.nl]; exact e⟩, by obtain ⟨ns, e⟩ := D.cc; exact ⟨ns, by rw [upd_ne D.nc]; exact e⟩, D.lc⟩
theorem But.refl : But d l H H := fun _ _ h _ _ => h
theorem But.trans {H1 H2 : Hp} (a : But d l H H1) (b : But d l H1 H2) : But d l H H2 := fun x o h h1 h2 => b x o (a x o h h1 h2) h1 h2
theorem But.atd {o : HO} : But d l H (upd H d o) := fun b u e h _ => by rw [upd_ne h]; exact e
theorem But.atl {o : HO} : But d l H (upd H l o) := fun b u e _ h => by rw [upd_ne h]; exact e
theorem But.new {p : Addr} {o : HO} (np : H p = none) : But d l H (upd H p o) := fun b u e _ _ => by rw [upd_ne (ne_of_none e np)]; exact e
theorem Drw.new {p : Addr} {o : HO} (D : Drw H d l c) (np : H p = none) : Drw (upd H p o) d l c := by
  obtain ⟨⟨r, t, h⟩, ⟨ns, hl⟩, ⟨ms, hc⟩, n⟩ := D
  exact ⟨⟨r, t, by rw [upd_ne (ne_of_none h np)]; exact h⟩, ⟨ns, by rw [upd_ne (ne_of_none hl np)]; exact hl⟩, ⟨ms, by rw [upd_ne (ne_of_none hc np)]; exact hc⟩, n⟩
end
def spMixed : Sp := fun vs H Q _ => ∃ d l c, vs = [.ref d] ∧ Drw H d l c ∧ ∀ (k : Int) H', Drw H' d l c → But d l H H' → Q (.int k) H'
def spTake : Sp := fun vs H Q _ => ∃ d l c n, vs = [.ref d, .int n] ∧ Drw H d l c ∧ 0 < n ∧ n < 1073741824 ∧ ∀ (k : Int) H', 0 ≤ k → k < n → Drw H' d l c → But d l H H' → Q (.int k) H'
def spPick : Sp := fun vs H Q _ => ∃ d l c s xs, vs = [.ref d, .ref s] ∧ Drw H d l c ∧ H s = some (.lst xs) ∧ s ≠ l ∧ 0 < xs.length ∧ xs.length ≤ 1000 ∧ ∀ (k : Nat) x H', xs[k]? = some x → Drw H' d l c → But d l H H' → Q x H'
theorem scM : FnScope ["_law_draw", "_law_turn", "_law_found", "_law_great", "_law_blend", "_law_grain"] ["_law_draw"] (defScope sMixed) := ⟨rfl, rfl, rfl, by decide +kernel, rfl, by decide +kernel, by decide +kernel⟩
theorem scT : FnScope ["_law_draw", "_law_amount", "_law_found"] ["_law_draw", "_law_amount"] (defScope sTake) := ⟨rfl, rfl, rfl, by decide +kernel, rfl, by decide +kernel, by decide +kernel⟩
theorem scP : FnScope ["_law_draw", "_law_some"] ["_law_draw", "_law_some"] (defScope sPick) := ⟨rfl, rfl, rfl, by decide +kernel, rfl, by decide +kernel, by decide +kernel⟩
/-- a remainder lies below 2^31 -/
theorem rem_in {a b : Int} (h0 : 0 < b) (h1 : b < 4294967296) : -(2 ^ 64) < a % b ∧ a % b < 2 ^ 64 := by
  have e1 := Int.emod_nonneg a (show b ≠ 0 by omega)
  have e2 := Int.emod_lt_of_pos a h0
  omega
theorem dp_ints {K : PySem.W.Frag} {H : Hp} : ∀ ns : List Int, DpAll K H (ns.map V.int) (ns.map PyData.int)
  | [] => .nil
  | n :: ns => .cons (.int n) (dp_ints ns)
theorem ints_shaped (ns : List Int) : SeqAt.shaped (.list (ns.map PyData.int)) = true := PySem.W.ke_shaped_ints ns
section
variable {P : Program} {w : World} {K : PySem.W.Frag} {mg : Str → Option Value} {base : Heap}
theorem ok_mixed {f : Addr} {fd : FuncData} (F : Fun K "_law_mixed" "_law_mixed" sMixed f fd) (mi : mg "int" = none) : FnOk P w K mg base CX0 1 f fd ["_law_draw"] spMixed := by
  refine F.ok scM (fun vs H Q E h => ?_) (fun cdv A outer s H vs Q E hr h => ?_)
  · obtain ⟨d, l, c, rfl, _⟩ := h
    rfl
  · obtain ⟨d, l, c, rfl, D, q⟩ := h
    have hu := hu_of hr
    refine ⟨_, pss_cons (ps_dput hu (pv 0) pe_str (pe_op op_add (pe_dget hu (pv 0) pe_str (fun _ _ => rfl)) pe_int) rfl)
      (pss_cons (ps_par (i := 1) (j := 2) rfl scM.nd rfl rfl (by decide) rfl rfl (pa_cons (pe_callTy call_int1 (by rfl) mi (by decide +kernel) (pa_cons (pe_dget hu (pv 0) pe_str (fun _ _ => rfl)) pa_nil)) (pa_cons pe_int pa_nil)) (by rfl) (by rfl))
      (pss_cons (ps_for PassesOwn.never rfl (pi_list (pe_lst (pa_cons pe_int (pa_cons pe_int (pa_cons pe_int pa_nil))))) (pg_name (i := 3) scM.nd rfl (.inl rfl))
        (pss_cons (ps_set (i := 4) scM.nd rfl (.inl rfl) (pe_op op_mod (pe_op op_add (pe_op op_mul (pv 1) pe_int) (pe_op op_fdiv (pv 3) pe_int)) (pv 3)))
        (pss_cons (ps_for PassesOwn.never rfl (pi_list (pe_dget hu (pv 0) pe_str (fun _ _ => rfl))) (pg_name (i := 5) scM.nd rfl (.inl rfl))
          (pss_one (ps_set (i := 4) scM.nd rfl (.inl rfl) (pe_op op_mod (pe_op op_add (pe_op op_mul (pv 4) pe_int) (pe_callTy call_int1 (by rfl) mi (by decide +kernel) (pa_cons (pv 5) pa_nil))) (pv 3)))))
        (pss_one (ps_set (i := 2) scM.nd rfl (.inl rfl) (pe_op op_add (pe_op op_mul (pv 2) pe_int) (pe_op op_mod (pe_op op_pow (pv 4) pe_int) (pv 3))))))))
      (pss_one (ps_ret (pv 2))))), ?_⟩
    obtain ⟨⟨r, t, hd⟩, ll, cc, lc⟩ := id D
    -- the turn
    refine ⟨_, rfl, d, _, rfl, g_turn hd, _, _, rfl, rfl, _, rfl, d, _, rfl, q_turn hd, ?_⟩
    have D1 := D.put r (t + 1)
    obtain ⟨⟨r1, t1, hd1⟩, _, _, _⟩ := id D1
    refine ⟨_, rfl, d, _, rfl, g_turn hd1, .inl ⟨_, rfl, _, _, rfl, ?_⟩⟩
    have B1 : But d l H (upd H d (.dK (dkv l c r (t + 1)))) := But.atd
    generalize upd H d (.dK (dkv l c r (t + 1))) = H1 at D1 hd1 B1 ⊢
    -- the three moduli
    refine ⟨by show 3 ≤ sizeLine; decide, fun p np => ?_⟩
    have gp : (upd H1 p (.lst [.int 2147483629, .int 2147483587, .int 2147483579])) p = some (.lst [.int 2147483629, .int 2147483587, .int 2147483579]) := upd_same
    refine ⟨p, rfl, ⟨_, SqL.of gp⟩, for_list (xs := [.int 2147483629, .int 2147483587, .int 2147483579]) (fun _ σ H2 => ∃ (fo : Int) (y3 y4 y5 : Option V), σ = [some (.ref d), some (.int t1), some (.int fo), y3, y4, y5] ∧ Drw H2 d l c ∧ But d l H H2 ∧ H2 p = some (.lst [.int 2147483629, .int 2147483587, .int 2147483579]))
      ⟨0, none, none, none, rfl, D1.new np, B1.trans (But.new np), gp⟩ (fun _ _ _ _ ⟨_, _, _, _, _, _, _, e⟩ => SqL.of e) ?_ ?_⟩
    · rintro i x σ H2 hx ⟨fo, y3, y4, y5, rfl, D2, B2, e2⟩
      obtain ⟨g, rfl, h0, h1⟩ : ∃ g : Int, x = .int g ∧ 0 < g ∧ g < 4294967296 := by
        rcases i with _ | _ | _ | i
        · exact ⟨_, (Option.some.inj hx).symm, by decide, by decide⟩
        · exact ⟨_, (Option.some.inj hx).symm, by decide, by decide⟩
        · exact ⟨_, (Option.some.inj hx).symm, by decide, by decide⟩
        · simp at hx
      refine ⟨_, rfl, _, _, rfl, rfl, .inr ⟨by decide, by decide⟩, _, rfl, _, _, rfl, rfl, ⟨by decide, by decide⟩, _, _, rfl, rfl, _, rfl, _, _, rfl, rfl, h0, ?_⟩
      obtain ⟨⟨r2, t2, hd2⟩, _, ⟨cs, hc2⟩, _⟩ := id D2
      refine ⟨_, rfl, d, _, rfl, g_cells hd2, c, rfl, ⟨_, SqL.of hc2⟩, for_list (xs := cs.map V.int) (fun _ σ H3 => ∃ (bl : Int) (y5 : Option V), σ = [some (.ref d), some (.int t1), some (.int fo), some (.int g), some (.int bl), y5] ∧ (-(2 ^ 64) < bl ∧ bl < 2 ^ 64) ∧ H3 = H2)
        ⟨_, y5, rfl, rem_in h0 h1, rfl⟩ (fun _ _ _ _ ⟨_, _, _, _, e⟩ => by rw [e]; exact SqL.of hc2) ?_ ?_⟩
      · rintro j x σ H3 hx ⟨b, y, rfl, hb, rfl⟩
        obtain ⟨z, rfl⟩ : ∃ z, x = V.int z := by
          rw [List.getElem?_map] at hx
          cases e : cs[j]? with
          | none => rw [e] at hx; cases hx
          | some z => rw [e] at hx; exact ⟨z, (Option.some.inj hx).symm⟩
        refine ⟨_, rfl, _, _, rfl, rfl, .inl hb, _, rfl, .inl ⟨_, rfl, _, _, rfl, rfl, _, rfl, _, _, rfl, rfl, h0, ?_⟩⟩
        exact ⟨_, _, rfl, rem_in h0 h1, rfl⟩
      · rintro σ H3 ⟨b, y, rfl, hb, rfl⟩
        refine ⟨_, rfl, _, _, rfl, rfl, .inr ⟨by decide, by decide⟩, _, rfl, _, _, rfl, rfl, ⟨by decide, by decide, ?_⟩, _, rfl, _, _, rfl, rfl, h0, _, _, rfl, rfl, ?_⟩
        · omega
        · exact ⟨_, _, _, _, rfl, D2, B2, e2⟩
    · rintro σ H2 ⟨fo, y3, y4, y5, rfl, D2, B2, e2⟩
      exact ⟨_, rfl, q fo H2 D2 B2⟩
theorem ok_take {f fM : Addr} {fd fdM : FuncData} (F : Fun K "_law_take" "_law_take" sTake f fd) (FM : Fun K "_law_mixed" "_law_mixed" sMixed fM fdM) (bM : Binds K fdM ["_law_draw"] []) (gM : mg "_law_mixed" = some (.ref fM)) (mi : mg "int" = none) :
    FnOk P w K mg base CX0 2 f fd ["_law_draw", "_law_amount"] spTake := by
  have GM : FnOk P w K mg base CX0 1 fM fdM ["_law_draw"] spMixed := ok_mixed FM mi
  refine F.ok scT (fun vs H Q E h => ?_) (fun cdv A outer s H vs Q E hr h => ?_)
  · obtain ⟨d, l, c, n, rfl, _⟩ := h
    rfl
  · obtain ⟨d, l, c, n, rfl, D, n0, n1, q⟩ := h
    have hu := hu_of hr
    refine ⟨_, pss_cons (ps_if (pt_cmpR op_eq (pe_dget hu (pv 0) pe_str (fun _ _ => rfl)) pe_int (nomark _))
        (pss_one (ps_dput hu (pv 0) pe_str (pe_ifExp (pt_cmpR (op_neD hr.units) (pe_dget hu (pv 0) pe_str (fun _ _ => rfl)) (pe_lst pa_nil) (nomark _))
          (pe_bm PySem.F.plainAttrs_list PySem.F.slot_list_pop PySem.F.type_list_pop mt_popAt (pe_dget hu (pv 0) pe_str (fun _ _ => rfl)) (pa_cons pe_int pa_nil))
          (pe_call GM hr (by rfl) gM FM.kp bM .nil pass0 (pa_cons (pv 0) pa_nil))) rfl)) pss_nil)
      (pss_cons (ps_set (i := 2) scT.nd rfl (.inl rfl) (pe_op op_mod (pe_callTy call_int1 (by rfl) mi (by decide +kernel) (pa_cons (pe_dget hu (pv 0) pe_str (fun _ _ => rfl)) pa_nil)) (pv 1)))
      (pss_cons (ps_dput hu (pv 0) pe_str (pe_op op_fdiv (pe_callTy call_int1 (by rfl) mi (by decide +kernel) (pa_cons (pe_dget hu (pv 0) pe_str (fun _ _ => rfl)) pa_nil)) (pv 1)) rfl)
      (pss_one (ps_ret (pv 2))))), ?_⟩
    obtain ⟨⟨r, t, hd⟩, ll, cc, lc⟩ := id D
    refine' (fun tail : ∀ H1 : Hp, Drw H1 d l c → But d l H H1 → (?G : Hp → Prop) H1 => ?a) ?b
    case a =>
      refine ⟨_, rfl, d, _, rfl, g_rest hd, rfl, _, rfl, ite2 (fun e => ?_) (fun e => ?_)⟩
      -- the rest is 0: the first of the large ones, or a mixed one
      · obtain ⟨ns, hl⟩ := ll
        refine ⟨_, rfl, d, _, rfl, g_large hd, Nat.zero_le _, fun p np => ?_⟩
        have Dp1 := D.new (o := .lst []) np
        have Bp1 : But d l H (upd H p (.lst [])) := But.new np
        have hl1 : (upd H p (.lst [])) l = some (.lst (ns.map V.int)) := by rw [upd_ne (ne_of_none hl np)]; exact hl
        have hd1 : (upd H p (.lst [])) d = some (.dK (dkv l c r t)) := by rw [upd_ne (ne_of_none hd np)]; exact hd
        have hp1 : (upd H p (.lst [])) p = some (.lst []) := upd_same
        generalize upd H p (.lst []) = H1 at Dp1 Bp1 hl1 hd1 hp1 ⊢
        refine ⟨.list (ns.map PyData.int), .list [], .lst (SqL.of hl1) (dp_ints ns), .lst (SqL.of hp1) .nil, ints_shaped ns, rfl, _, rfl, ?_⟩
        cases ns with
        | nil =>
          refine iteF ⟨.ref d, rfl, d, l, c, rfl, Dp1, fun k H2 D2 B2 => ?_⟩
          obtain ⟨⟨r2, t2, hd2⟩, _, _, _⟩ := id D2
          refine ⟨_, rfl, d, _, rfl, q_rest hd2, ?_⟩
          have D3 := D2.put k t2
          have B3 : But d l H (upd H2 d (.dK (dkv l c k t2))) := (Bp1.trans B2).trans But.atd
          generalize upd H2 d (.dK (dkv l c k t2)) = H3 at D3 B3 ⊢
          exact tail H3 D3 B3
        | cons x xs =>
          refine iteT ⟨_, rfl, d, _, rfl, g_large hd1, .inl ⟨rfl, _, SqL.of hl1⟩, l, _, 0, 0, .int x, rfl, rfl, hl1, by decide, by decide, seqIndex_of (by decide) (by simp), rfl, ?_⟩
          have D2 : Drw (upd H1 l (.lst (xs.map V.int))) d l c := ⟨⟨r, t, by rw [upd_ne D.nl.symm]; exact hd1⟩, ⟨xs, upd_same⟩, by obtain ⟨ms, hc⟩ := Dp1.cc; exact ⟨ms, by rw [upd_ne lc.symm]; exact hc⟩, lc⟩
          have B2 : But d l H (upd H1 l (.lst (xs.map V.int))) := Bp1.trans But.atl
          have eL : (List.map V.int (x :: xs)).eraseIdx 0 = xs.map V.int := rfl
          rw [eL]
          obtain ⟨⟨r2, t2, hd2⟩, _, _, _⟩ := id D2
          refine ⟨_, rfl, d, _, rfl, q_rest hd2, ?_⟩
          have D3 := D2.put x t2
          have B3 := B2.trans (But.atd (o := .dK (dkv l c x t2)))
          generalize upd (upd H1 l (.lst (xs.map V.int))) d (.dK (dkv l c x t2)) = H3 at D3 B3 ⊢
          exact tail H3 D3 B3
      · exact tail H D But.refl
    case b =>
      intro H1 D1 B1
      obtain ⟨⟨r1, t1, hd1⟩, _, _, _⟩ := id D1
      refine ⟨_, rfl, d, _, rfl, g_rest hd1, .inl ⟨_, rfl, _, rfl, _, _, rfl, rfl, n0, ?_⟩⟩
      refine ⟨_, rfl, d, _, rfl, g_rest hd1, .inl ⟨_, rfl, _, rfl, _, _, rfl, rfl, ⟨n0, n1⟩, _, rfl, d, _, rfl, q_rest hd1, ?_⟩⟩
      exact ⟨_, rfl, q _ _ (Int.emod_nonneg _ (by omega)) (Int.emod_lt_of_pos _ n0) (D1.put _ _) (B1.trans But.atd)⟩
theorem ok_pick {f fT fM : Addr} {fd fdT fdM : FuncData} (F : Fun K "_law_pick" "_law_pick" sPick f fd) (FT : Fun K "_law_take" "_law_take" sTake fT fdT) (FM : Fun K "_law_mixed" "_law_mixed" sMixed fM fdM)
    (bT : Binds K fdT ["_law_draw", "_law_amount"] []) (bM : Binds K fdM ["_law_draw"] []) (gT : mg "_law_take" = some (.ref fT)) (gM : mg "_law_mixed" = some (.ref fM)) (mi : mg "int" = none) (ml : mg "len" = none) :
    FnOk P w K mg base CX0 3 f fd ["_law_draw", "_law_some"] spPick := by
  have GT : FnOk P w K mg base CX0 2 fT fdT ["_law_draw", "_law_amount"] spTake := ok_take FT FM bM gM mi
  refine F.ok scP (fun vs H Q E h => ?_) (fun cdv A outer s H vs Q E hr h => ?_)
  · obtain ⟨d, l, c, z, xs, rfl, _⟩ := h
    rfl
  · obtain ⟨d, l, c, z, xs, rfl, D, hz, zl, x0, x1, q⟩ := h
    have hu := hu_of hr
    refine ⟨_, pss_one (ps_ret (pe_ix ix_list (pv 1) (pe_call GT hr (by rfl) gT FT.kp bT .nil pass0 (pa_cons (pv 0) (pa_cons (pe_callB call_len_seq (by rfl) ml PySem.boot_len (pa_cons (pv 1) pa_nil)) pa_nil))) (fun _ _ => rfl))), ?_⟩
    obtain ⟨⟨r, t, hd⟩, _, _, _⟩ := id D
    have zd : z ≠ d := ne_of hz hd (by intro z; cases z)
    refine ⟨_, rfl, _, rfl, _, rfl, z, xs, rfl, .inl (SqL.of hz), d, l, c, _, rfl, D, by omega, by omega, fun k H1 k0 k1 D1 B1 => ?_⟩
    obtain ⟨j, rfl⟩ : ∃ j : Nat, k = (j : Int) := ⟨k.toNat, by omega⟩
    have hj : j < xs.length := by omega
    exact ⟨z, xs, (j : Int), xs[j], rfl, rfl, SqL.of (B1 _ _ hz zd zl), atI_nat (List.getElem?_eq_getElem hj), q j _ H1 (List.getElem?_eq_getElem hj) D1 B1⟩
end
end Kn
-- part Bg
set_option maxHeartbeats 4000000
namespace Kn
open PySem PySem.Spec PyProof.Rows L2
theorem scB : FnScope ["_law_script", "_law_large", "_law_grain"] ["_law_script"] (defScope sBegun) := ⟨rfl, rfl, rfl, by decide +kernel, rfl, by decide +kernel, by decide +kernel⟩
def spBegun (K : PySem.W.Frag) : Sp := fun vs H Q _ => ∃ (a : Addr) (ns : List Int), vs = [.ref a] ∧ SqL K H a (ns.map V.int) ∧ ns.length ≤ 63 ∧ ∀ d l c H', Same H H' → H d = none → H l = none → H c = none → Drw H' d l c → Q (.ref d) H'
theorem same_new {H : Hp} {p : Addr} {o : HO} (h : H p = none) : Same H (upd H p o) := fun b u e => by
  rw [upd_ne (ne_of_none e h)]
  exact e
theorem same_own {H H1 : Hp} {p : Addr} {o : HO} (h : H p = none) (s : Same H H1) : Same H (upd H1 p o) := fun b u e => by
  rw [upd_ne (ne_of_none e h)]
  exact s b u e
theorem int_at {ns : List Int} {i : Nat} {x : V} (h : (ns.map V.int)[i]? = some x) : ∃ z, x = V.int z ∧ i < ns.length := by
  have hi := (List.getElem?_eq_some_iff.mp h).1
  rw [List.length_map] at hi
  rw [List.getElem?_map, List.getElem?_eq_getElem hi] at h
  exact ⟨ns[i], (Option.some.inj h).symm, hi⟩
section
variable {P : Program} {w : World} {K : PySem.W.Frag} {mg : Str → Option Value} {base : Heap}
theorem ok_begun {f : Addr} {fd : FuncData} (F : Fun K "_law_begun" "_law_begun" sBegun f fd) (ma : mg "abs" = none) : FnOk P w K mg base CX0 1 f fd ["_law_script"] (spBegun K) := by
  refine F.ok scB (fun vs H Q E h => ?_) (fun cdv A outer s H vs Q E hr h => ?_)
  · obtain ⟨a, ns, rfl, _⟩ := h
    rfl
  · obtain ⟨a, ns, rfl, hS, hn, q⟩ := h
    have hu := hu_of hr
    refine ⟨_, pss_cons (ps_setLc (i := 1) (own := [("_law_grain", 2)]) (g := gName 2) rfl scB.nd rfl rfl (sw_true rfl rfl rfl (by decide +kernel)) (pi_list (pv 0)) (blkOk_by (N := ["_law_script", "_law_large", "_law_grain"]) (sc := defScope sBegun) (by decide +kernel)) (fun _ _ _ _ _ => pg_name (i := 2) scB.nd rfl (.inl rfl))
          (fun _ _ _ _ _ => pts_one (pt_cmpR op_ge (pe_callB call_abs (by rfl) ma (by decide +kernel) (pa_cons (pv 2) pa_nil)) (pe_op op_pow pe_int pe_int) (nomark _)))
          (fun _ _ _ _ _ => pe_op op_sub (pe_callB call_abs (by rfl) ma (by decide +kernel) (pa_cons (pv 2) pa_nil)) (pe_op op_pow pe_int pe_int)))
      (pss_one (ps_ret (pe_disp (pps_cons pe_str (pv 1) (pps_cons pe_str pe_int (pps_cons pe_str
          (pe_lc (own := [("_law_grain", 2)]) (g := gName 2) rfl scB.nd (pi_list (pv 0)) (blkOk_by (N := ["_law_script", "_law_large", "_law_grain"]) (sc := defScope sBegun) (by decide +kernel)) (fun _ _ _ _ _ => pg_name (i := 2) scB.nd rfl (.inl rfl)) (fun _ _ _ _ _ => pts_nil)
            (fun _ _ _ _ _ => pe_callB call_abs (by rfl) ma (by decide +kernel) (pa_cons (pv 2) pa_nil)))
          (pps_cons pe_str pe_int pps_nil)))) rfl rfl (by decide) (by decide)))), ?_⟩
    -- the large ones
    refine ⟨_, rfl, a, rfl, ⟨_, hS⟩, fun L nL => lc_list (xs := ns.map V.int) (fun i H2 => Same H H2 ∧ ∃ acc : List Int, H2 L = some (.lst (acc.map V.int)) ∧ acc.length ≤ i) ⟨same_new nL, [], upd_same, Nat.le_refl _⟩ (fun _ _ _ h => h.1.seq hS) ?_ ?_⟩
    · rintro i x H2 hx ⟨sm, acc, ea, la⟩
      obtain ⟨z, rfl, hi⟩ := int_at hx
      refine ⟨rfl, _, rfl, z, rfl, _, _, rfl, rfl, ⟨by decide, by decide, by decide⟩, _, _, rfl, rfl, _, rfl, ite2 (fun e => ?_) (fun e => ?_)⟩
      · refine ⟨_, rfl, z, rfl, _, _, rfl, rfl, ⟨by decide, by decide, by decide⟩, _, _, rfl, rfl, _, ea, ?_, same_own nL sm, acc ++ [(if z < 0 then -z else z) - 10 ^ Int.toNat 18], ?_, ?_⟩
        · rw [List.length_map]
          exact small1000 (by omega)
        · exact Eq.trans upd_same (by rw [List.map_append]; rfl)
        · rw [List.length_append, List.length_singleton]
          omega
      · exact ⟨sm, acc, ea, Nat.le_succ_of_le la⟩
    · rintro H2 ⟨sm, ls, eL, _⟩
      -- the dict
      refine fun p np => ?_
      have npL : L ≠ p := ne_of_none eL np
      refine ⟨_, rfl, _, rfl, a, rfl, ⟨_, (same_new np).seq (sm.seq hS)⟩, fun C nC => lc_list (xs := ns.map V.int) (fun i H3 => Same H H3 ∧ H3 p = some (.dK []) ∧ H3 L = some (.lst (ls.map V.int)) ∧ ∃ acc : List Int, H3 C = some (.lst (acc.map V.int)) ∧ acc.length ≤ i) ?_ (fun _ _ _ h => h.1.seq hS) ?_ ?_⟩
      · have npC : p ≠ C := ne_of_none upd_same nC
        have nC2 : H2 C = none := (same_new np).free nC
        refine ⟨sm.trans ((same_new np).trans (same_new nC)), ?_, ?_, [], upd_same, Nat.le_refl _⟩
        · rw [upd_ne npC, upd_same]
        · rw [upd_ne (ne_of_none eL nC2), upd_ne npL]
          exact eL
      · rintro i x H3 hx ⟨s3, ep, e3, acc, ea, la⟩
        obtain ⟨z, rfl, hi⟩ := int_at hx
        have pC : p ≠ C := ne_of ep ea (by intro z; cases z)
        have LC : L ≠ C := fun e => by
          have nC2 := (same_new (o := .dK []) np).free nC
          rw [← e, eL] at nC2
          cases nC2
        refine ⟨rfl, ?_⟩
        dsimp only [tYes]
        rw [if_pos rfl]
        refine ⟨_, rfl, z, rfl, _, ea, ?_, same_own (sm.free ((same_new np).free nC)) s3, ?_, ?_, acc ++ [if z < 0 then -z else z], ?_, ?_⟩
        · rw [List.length_map]
          exact small1000 (by omega)
        · rw [upd_ne pC]
          exact ep
        · rw [upd_ne LC]
          exact e3
        · exact Eq.trans upd_same (by rw [List.map_append]; rfl)
        · rw [List.length_append, List.length_singleton]
          omega
      · rintro H3 ⟨s3, ep, e3, acc, ea, la⟩
        have nC2 : H2 C = none := (same_new np).free nC
        have LC : L ≠ C := fun e => by
          rw [← e, eL] at nC2
          cases nC2
        have pC : C ≠ p := ne_of ea ep (by intro z; cases z)
        refine ⟨ep, dkv L C 0 0, rfl, by show 4 ≤ 15; decide, ?_⟩
        refine q p L C _ (same_own (sm.free np) s3) (sm.free np) nL (sm.free nC2) ⟨⟨0, 0, upd_same⟩, ⟨ls, ?_⟩, ⟨acc, ?_⟩, LC⟩
        · rw [upd_ne npL]
          exact e3
        · rw [upd_ne pC]
          exact ea
end
end Kn
-- part Sh
set_option maxHeartbeats 4000000
namespace Kn
open PySem PySem.Spec PyProof.Rows L2
abbrev sShuf : Stmt := topS 37
theorem scS : FnScope ["_law_draw", "_law_some", "_law_pool", "_law_found"] ["_law_draw", "_law_some"] (defScope sShuf) := ⟨rfl, rfl, rfl, by decide +kernel, rfl, by decide +kernel, by decide +kernel⟩
/-- a number or a text -/
inductive Sm : V → PyData → Prop where
  | int (i : Int) : Sm (.int i) (.int i)
  | str (x : Str) (h : PyData.strOk x = true) : Sm (.str x) (.str x)
inductive Sms : List V → List PyData → Prop where
  | nil : Sms [] []
  | cons {x : V} {y : PyData} {xs : List V} {ys : List PyData} (h : Sm x y) (t : Sms xs ys) : Sms (x :: xs) (y :: ys)
theorem Sms.of : ∀ {xs : List V}, (∀ x ∈ xs, ∃ y, Sm x y) → ∃ ys, Sms xs ys
  | [], _ => ⟨_, .nil⟩
  | x :: xs, h => by
    obtain ⟨y, hy⟩ := h x (List.mem_cons_self ..)
    obtain ⟨ys, t⟩ := Sms.of (xs := xs) fun z hz => h z (List.mem_cons_of_mem _ hz)
    exact ⟨_, .cons hy t⟩
theorem Sms.dp {K : PySem.W.Frag} {H : Hp} : ∀ {xs : List V} {ys : List PyData}, Sms xs ys → DpAll K H xs ys
  | _, _, .nil => .nil
  | _, _, .cons h t => .cons (by cases h with | int i => exact .int _ | str x _ => exact .str _) t.dp
theorem Sms.lay : ∀ {xs : List V} {ys : List PyData}, Sms xs ys → PyData.canLayAll0 ys = true ∧ PyData.depthAll ys = 0
  | _, _, .nil => ⟨rfl, rfl⟩
  | _, _, .cons h t => by
    obtain ⟨z1, z2⟩ := t.lay
    cases h with
    | int i => simp [PyData.canLayAll0, PyData.canLay0, PyData.depthAll, PyData.depth, z1, z2]
    | str x h => simp [PyData.canLayAll0, PyData.canLay0, PyData.depthAll, PyData.depth, z1, z2, h]
theorem Sms.flat {xs : List V} {ys : List PyData} (h : Sms xs ys) : SeqAt.shaped (.list ys) = true := by
  obtain ⟨z1, z2⟩ := h.lay
  simp [SeqAt.shaped, PyData.canLay0, PyData.depth, z1, z2]
theorem But.own {d l p : Addr} {H H2 : Hp} {o : HO} (b : But d l H H2) (np : H p = none) : But d l H (upd H2 p o) := fun x u e h1 h2 => by
  rw [upd_ne (ne_of_none e np)]
  exact b x u e h1 h2
theorem Drw.own {d l c p : Addr} {H H2 : Hp} {o : HO} (D : Drw H2 d l c) (D0 : Drw H d l c) (np : H p = none) : Drw (upd H2 p o) d l c := by
  obtain ⟨⟨r, t, h⟩, ⟨ns, hl⟩, ⟨ms, hc⟩, n⟩ := D
  obtain ⟨⟨r0, t0, h0⟩, ⟨ns0, hl0⟩, ⟨ms0, hc0⟩, _⟩ := D0
  exact ⟨⟨r, t, by rw [upd_ne (ne_of_none h0 np)]; exact h⟩, ⟨ns, by rw [upd_ne (ne_of_none hl0 np)]; exact hl⟩, ⟨ms, by rw [upd_ne (ne_of_none hc0 np)]; exact hc⟩, n⟩
theorem perm_pop : ∀ {xs : List V} {k : Nat} {y : V}, xs[k]? = some y → (y :: xs.eraseIdx k).Perm xs
  | x :: xs, 0, y, h => by
    cases h
    exact .refl _
  | x :: xs, k + 1, y, h => by
    have z := perm_pop (xs := xs) (k := k) (y := y) (by simpa using h)
    exact (List.Perm.swap x y _).trans (z.cons x)
def spShuf : Sp := fun vs H Q _ => ∃ d l c s xs, vs = [.ref d, .ref s] ∧ Drw H d l c ∧ H s = some (.lst xs) ∧ s ≠ l ∧ (∀ x ∈ xs, ∃ y, Sm x y) ∧ xs.length ≤ 1000 ∧ ∀ p ys H', ys.Perm xs → Drw H' d l c → But d l H H' → H p = none → H' p = some (.lst ys) → Q (.ref p) H'
section
variable {P : Program} {w : World} {K : PySem.W.Frag} {mg : Str → Option Value} {base : Heap}
theorem ok_shuf {f fT : Addr} {fd fdT : FuncData} (F : Fun K "_law_shuffled" "_law_shuffled" sShuf f fd) (GT : FnOk P w K mg base CX0 2 fT fdT ["_law_draw", "_law_amount"] spTake) (kT : PySem.W.keepIn K (.ref fT) = true)
    (bT : Binds K fdT ["_law_draw", "_law_amount"] []) (gT : mg "_law_take" = some (.ref fT)) (ml : mg "len" = none) (mk : mg "list" = none) : FnOk P w K mg base CX0 3 f fd ["_law_draw", "_law_some"] spShuf := by
  have S := scS
  refine F.ok S (fun vs H Q E h => ?_) (fun cdv A outer s H vs Q E hr h => ?_)
  · obtain ⟨d, l, c, z, xs, rfl, _⟩ := h
    rfl
  · obtain ⟨d, l, c, z, xs, rfl, D, hz, zl, hx, x1, q⟩ := h
    have hu := hu_of hr
    refine ⟨_, pss_cons (ps_par (i := 2) (j := 3) rfl S.nd rfl rfl (by decide) rfl rfl (pa_cons (pe_callTy call_list_of (by rfl) mk (by decide +kernel) (pa_cons (pv 1) pa_nil)) (pa_cons (pe_lst pa_nil) pa_nil)) (by rfl) (by rfl))
      (pss_cons (ps_while PassesOwn.never (pt_cmpR (op_neD hr.units) (pv 2) (pe_lst pa_nil) (nomark _))
        (pss_one (ps_expr (pe_bm PySem.F.plainAttrs_list PySem.F.slot_list_append PySem.F.type_list_append mt_append (pv 3)
          (pa_cons (pe_bm PySem.F.plainAttrs_list PySem.F.slot_list_pop PySem.F.type_list_pop mt_popAt (pv 2)
            (pa_cons (pe_call GT hr (by rfl) gT kT bT .nil pass0 (pa_cons (pv 0) (pa_cons (pe_callB call_len_seq (by rfl) ml PySem.boot_len (pa_cons (pv 2) pa_nil)) pa_nil))) pa_nil)) pa_nil)))))
      (pss_one (ps_ret (pv 3)))), ?_⟩
    refine ⟨_, rfl, z, xs, rfl, .inl (SqL.of hz), fun po npo => ?_⟩
    refine ⟨Nat.zero_le _, fun fo nfo => ⟨_, _, rfl, ?_⟩⟩
    have nfo' : H fo = none := by
      by_cases e : fo = po
      · subst e
        rw [upd_same] at nfo
        cases nfo
      · rw [upd_ne e] at nfo
        exact nfo
    have pf : po ≠ fo := fun e => by
      subst e
      rw [upd_same] at nfo
      cases nfo
    have hp0 : (upd (upd H po (.lst xs)) fo (.lst [])) po = some (.lst xs) := by rw [upd_ne pf, upd_same]
    have hf0 : (upd (upd H po (.lst xs)) fo (.lst [])) fo = some (.lst []) := upd_same
    have D1 := ((Drw.own (o := .lst xs) D D npo).own (o := .lst []) D nfo')
    have B1 : But d l H (upd (upd H po (.lst xs)) fo (.lst [])) := (But.own (o := .lst xs) But.refl npo).own nfo'
    generalize upd (upd H po (.lst xs)) fo (.lst []) = H1 at hp0 hf0 D1 B1 ⊢
    refine ⟨fun m σ H2 => ∃ ps fs, σ = [some (.ref d), some (.ref z), some (.ref po), some (.ref fo)] ∧ H2 po = some (.lst ps) ∧ H2 fo = some (.lst fs) ∧ m = ps.length ∧ (fs ++ ps).Perm xs ∧ Drw H2 d l c ∧ But d l H H2, ⟨_, xs, [], rfl, hp0, hf0, rfl, .refl _, D1, B1⟩, ?_⟩
    rintro m σ H2 ⟨ps, fs, rfl, hp, hf, rfl, pm, D2, B2⟩
    have hl0 : ∃ o, H l = some o := by obtain ⟨_, ⟨ns, e⟩, _, _⟩ := D; exact ⟨_, e⟩
    have hd0 : ∃ o, H d = some o := by obtain ⟨⟨r, t, e⟩, _, _, _⟩ := D; exact ⟨_, e⟩
    have pl : po ≠ l := fun e => by obtain ⟨o, z⟩ := hl0; rw [← e, npo] at z; cases z
    have pd : po ≠ d := fun e => by obtain ⟨o, z⟩ := hd0; rw [← e, npo] at z; cases z
    have fl : fo ≠ l := fun e => by obtain ⟨o, z⟩ := hl0; rw [← e, nfo'] at z; cases z
    have fd' : fo ≠ d := fun e => by obtain ⟨o, z⟩ := hd0; rw [← e, nfo'] at z; cases z
    refine ⟨_, rfl, Nat.zero_le _, fun e ne => ?_⟩
    obtain ⟨ds, hds⟩ := Sms.of (xs := ps) fun x hh => hx x (pm.subset (List.mem_append_right _ hh))
    have hp3 : (upd H2 e (.lst [])) po = some (.lst ps) := by rw [upd_ne (ne_of_none hp ne)]; exact hp
    have hf3 : (upd H2 e (.lst [])) fo = some (.lst fs) := by rw [upd_ne (ne_of_none hf ne)]; exact hf
    have he3 : (upd H2 e (.lst [])) e = some (.lst []) := upd_same
    have D3 := D2.new (o := .lst []) ne
    have B3 : But d l H (upd H2 e (.lst [])) := B2.trans (But.new ne)
    generalize upd H2 e (.lst []) = H3 at hp3 hf3 he3 D3 B3 ⊢
    have lsum : fs.length + ps.length = xs.length := by rw [← List.length_append]; exact pm.length_eq
    refine ⟨.list ds, .list [], .lst (SqL.of hp3) hds.dp, .lst (SqL.of he3) .nil, hds.flat, rfl, _, rfl, ?_⟩
    cases hds with
    | nil =>
      refine iteF ⟨_, rfl, q fo fs H3 (by simpa using pm) D3 B3 nfo' hf3⟩
    | @cons x y0 r ys hxy ht =>
      refine iteT ⟨fun σ' H' => ∃ m', m' < (x :: r).length ∧ ∃ ps fs, σ' = [some (.ref d), some (.ref z), some (.ref po), some (.ref fo)] ∧ H' po = some (.lst ps) ∧ H' fo = some (.lst fs) ∧ m' = ps.length ∧ (fs ++ ps).Perm xs ∧ Drw H' d l c ∧ But d l H H', fun _ _ h => h, ?_⟩
      refine ⟨_, rfl, .inl ⟨rfl, _, SqL.of hf3⟩, _, rfl, .inl ⟨rfl, _, SqL.of hp3⟩, _, rfl, _, rfl, po, x :: r, rfl, .inl (SqL.of hp3), d, l, c, ((x :: r).length : Nat), rfl, D3, by rw [List.length_cons]; omega, by rw [List.length_cons] at lsum ⊢; omega, fun k H4 k0 k1 D4 B4 => ?_⟩
      obtain ⟨j, rfl⟩ : ∃ j : Nat, k = (j : Int) := ⟨k.toNat, by omega⟩
      have hj : j < (x :: r).length := by omega
      have hj2 : j < 1001 := by omega
      have hp4 := B4 _ _ hp3 pd pl
      have hf4 := B4 _ _ hf3 fd' fl
      have gj := List.getElem?_eq_getElem hj
      refine ⟨po, x :: r, (j : Int), j, (x :: r)[j], rfl, rfl, hp4, by omega, by omega, seqIndex_of (by omega) (by exact Int.ofNat_lt.mpr hj), gj, ?_⟩
      have hf5 : (upd H4 po (.lst ((x :: r).eraseIdx j))) fo = some (.lst fs) := by rw [upd_ne pf.symm]; exact hf4
      have hp5 : (upd H4 po (.lst ((x :: r).eraseIdx j))) po = some (.lst ((x :: r).eraseIdx j)) := upd_same
      have D5 := D4.own (o := .lst ((x :: r).eraseIdx j)) D npo
      have B5 := (B3.trans B4).own (o := .lst ((x :: r).eraseIdx j)) npo
      generalize upd H4 po (.lst ((x :: r).eraseIdx j)) = H5 at hf5 hp5 D5 B5 ⊢
      refine ⟨fo, fs, (x :: r)[j], rfl, rfl, hf5, small1000 (by omega), ?_⟩
      have el : ((x :: r).eraseIdx j).length = (x :: r).length - 1 := List.length_eraseIdx_of_lt hj
      refine ⟨_, ?_, (x :: r).eraseIdx j, fs ++ [(x :: r)[j]], rfl, ?_, upd_same, rfl, ?_, D5.own D nfo', B5.own nfo'⟩
      · rw [el, List.length_cons]
        omega
      · rw [upd_ne pf]
        exact hp5
      · rw [List.append_assoc]
        exact ((perm_pop gj).append_left fs).trans pm
end
end Kn
-- part Vl
set_option maxHeartbeats 4000000
/-! Any value, as far as the package judges it: a word W of it, and the package's judges as functions of that word. -/
namespace Kn
open PySem PySem.Spec PyProof.Rows L2
inductive W where
  | non
  | bl (b : Bool)
  | int (i : Int)
  | str (x : Str)
  | lst (ws : List W)
  | tup (ws : List W)
  | dct (kws : List (Option Key × W))
/-- a dict at a, its items in their order -/
def DctAt (H : Hp) (a : Addr) (kvs : List (Option Key × V)) : Prop := ∃ ks : List (Key × V), Rd H a (.dK ks) ∧ kvs = ks.map fun p => (some p.1, p.2)
/-- a key that is short -/
def kSm : Option Key → Prop
  | some (.inr x) => x.cps.size ≤ 900 ∧ PyData.strOk x = true
  | _ => True
mutual
inductive Is (H : Hp) : V → W → Prop
  | non : Is H .non .non
  | bl (b : Bool) : Is H (.bl b) (.bl b)
  | int (i : Int) : Is H (.int i) (.int i)
  | str (x : Str) (h : x.cps.size ≤ 900) (ok : PyData.strOk x = true) : Is H (.str x) (.str x)
  | lst {a : Addr} {xs : List V} {ws : List W} (h : xs.length ≤ 900) : H a = some (.lst xs) → IsAll H xs ws → Is H (.ref a) (.lst ws)
  | tup {a : Addr} {xs : List V} {ws : List W} (h : xs.length ≤ 900) : Rd H a (.tup xs) → IsAll H xs ws → Is H (.ref a) (.tup ws)
  | dct {a : Addr} {kvs : List (Option Key × V)} {kws : List (Option Key × W)} (h : kvs.length ≤ 900) : DctAt H a kvs → IsKV H kvs kws → Is H (.ref a) (.dct kws)
inductive IsAll (H : Hp) : List V → List W → Prop
  | nil : IsAll H [] []
  | cons {v : V} {w : W} {vs : List V} {ws : List W} : Is H v w → IsAll H vs ws → IsAll H (v :: vs) (w :: ws)
inductive IsKV (H : Hp) : List (Option Key × V) → List (Option Key × W) → Prop
  | nil : IsKV H [] []
  | cons {k : Option Key} {v : V} {w : W} {vs : List (Option Key × V)} {ws : List (Option Key × W)} (hk : kSm k) : Is H v w → IsKV H vs ws → IsKV H ((k, v) :: vs) ((k, w) :: ws)
end
theorem DctAt.same {H H' : Hp} {a : Addr} {kvs : List (Option Key × V)} (h : DctAt H a kvs) (s : Same H H') : DctAt H' a kvs := by
  obtain ⟨ks, e, q⟩ := h
  refine ⟨ks, ?_, q⟩
  rcases e with e | ⟨o, e⟩
  · exact .inl (s _ _ e)
  · exact .inr ⟨o, s _ _ e⟩
/-- a dict is locked: what reads it stays -/
theorem DctAt.lock {H : Hp} {a d : Addr} {od : Obj} {ks0 : List (Key × V)} {kvs : List (Option Key × V)} (hd : H d = some (.dK ks0)) (h : DctAt H a kvs) : DctAt (upd H d (.frz od (.dK ks0))) a kvs := by
  obtain ⟨ks, e, q⟩ := h
  refine ⟨ks, ?_, q⟩
  by_cases hb : a = d
  · subst hb
    rcases e with e | ⟨o, e⟩
    · rw [hd] at e
      cases e
      exact .inr ⟨od, upd_same⟩
    · rw [hd] at e
      cases e
  · rcases e with e | ⟨o, e⟩
    · exact .inl (by rw [upd_ne hb]; exact e)
    · exact .inr ⟨o, by rw [upd_ne hb]; exact e⟩
theorem Rd.same {H H' : Hp} {a : Addr} {u : HO} (h : Rd H a u) (s : Same H H') : Rd H' a u := by
  rcases h with e | ⟨o, e⟩
  · exact .inl (s _ _ e)
  · exact .inr ⟨o, s _ _ e⟩
theorem Rd.lock {H : Hp} {a d : Addr} {od : Obj} {ks : List (Key × V)} {xs : List V} (hd : H d = some (.dK ks)) (h : Rd H a (.tup xs)) : Rd (upd H d (.frz od (.dK ks))) a (.tup xs) := by
  have ne : a ≠ d := fun z => by
    rcases h with e | ⟨o, e⟩
    · rw [z, hd] at e
      cases e
    · rw [z, hd] at e
      cases e
  rcases h with e | ⟨o, e⟩
  · exact .inl (by rw [upd_ne ne]; exact e)
  · exact .inr ⟨o, by rw [upd_ne ne]; exact e⟩
mutual
theorem Is.same {H H' : Hp} {v : V} {w : W} (s : Same H H') : Is H v w → Is H' v w
  | .non => .non
  | .bl b => .bl b
  | .int i => .int i
  | .str x h ok => .str x h ok
  | .lst h e t => .lst h (s _ _ e) (t.same s)
  | .tup h e t => .tup h (Rd.same e s) (t.same s)
  | .dct h e t => .dct h (e.same s) (t.same s)
theorem IsAll.same {H H' : Hp} {v : List V} {w : List W} (s : Same H H') : IsAll H v w → IsAll H' v w
  | .nil => .nil
  | .cons h t => .cons (h.same s) (t.same s)
theorem IsKV.same {H H' : Hp} {v : List (Option Key × V)} {w : List (Option Key × W)} (s : Same H H') : IsKV H v w → IsKV H' v w
  | .nil => .nil
  | .cons hk h t => .cons hk (h.same s) (t.same s)
end
mutual
theorem Is.lock {H : Hp} {d : Addr} {od : Obj} {ks0 : List (Key × V)} (hd : H d = some (.dK ks0)) {v : V} {w : W} : Is H v w → Is (upd H d (.frz od (.dK ks0))) v w
  | .non => .non
  | .bl b => .bl b
  | .int i => .int i
  | .str x h ok => .str x h ok
  | .lst h e t => .lst h (by rw [upd_ne (ne_of e hd (by intro z; cases z))]; exact e) (t.lock hd)
  | .tup h e t => .tup h (Rd.lock hd e) (t.lock hd)
  | .dct h e t => .dct h (e.lock hd) (t.lock hd)
theorem IsAll.lock {H : Hp} {d : Addr} {od : Obj} {ks0 : List (Key × V)} (hd : H d = some (.dK ks0)) {v : List V} {w : List W} : IsAll H v w → IsAll (upd H d (.frz od (.dK ks0))) v w
  | .nil => .nil
  | .cons h t => .cons (h.lock hd) (t.lock hd)
theorem IsKV.lock {H : Hp} {d : Addr} {od : Obj} {ks0 : List (Key × V)} (hd : H d = some (.dK ks0)) {v : List (Option Key × V)} {w : List (Option Key × W)} : IsKV H v w → IsKV (upd H d (.frz od (.dK ks0))) v w
  | .nil => .nil
  | .cons hk h t => .cons hk (h.lock hd) (t.lock hd)
end
/-- not locked -/
def NF (H : Hp) (v : V) : Prop := ∀ a o u, v = .ref a → H a ≠ some (.frz o u)
def tyN : W → String
  | .non => "NoneType"
  | .bl _ => "bool"
  | .int _ => "int"
  | .str _ => "str"
  | .lst _ => "list"
  | .tup _ => "tuple"
  | .dct _ => "dict"
theorem Is.ty {K : PySem.W.Frag} {H : Hp} {v : V} {w : W} (h : Is H v w) : TyX K H v (.type (tyN w)) := by
  cases h with
  | non => exact .base .non
  | bl b => exact .base (.bl b)
  | int i => exact .base (.int i)
  | str x _ _ => exact .base (.str x)
  | lst _ e _ => exact .base (.lst e)
  | tup _ e _ =>
    rcases e with e | ⟨o, e⟩
    · exact .base (.tup e)
    · exact .fTuple e
  | dct _ e _ =>
    obtain ⟨ks, e, _⟩ := e
    rcases e with e | ⟨o, e⟩
    · exact .base (.dK e)
    · exact .fDict e
abbrev isTy (T : String) (w : W) : Bool := (kitB (tyN w) T).getD false
/-- isinstance(v, T), for the kinds that the package asks for -/
theorem Is.kit {K : PySem.W.Frag} {w : W} {T : String} (hT : T ∈ ["bool", "int", "str", "list", "tuple", "dict"]) : PySem.W.kitOne K (.type (tyN w)) (.type T) = some (isTy T w) := by
  refine kit_ty ?_
  have z : ∀ a ∈ ["NoneType", "bool", "int", "str", "list", "tuple", "dict"], ∀ T ∈ ["bool", "int", "str", "list", "tuple", "dict"], kitB a T = some ((kitB a T).getD false) := by decide +kernel
  exact z (tyN w) (by cases w <;> simp [tyN]) T hT
def isNum (w : W) : Bool := isTy "int" w && !isTy "bool" w
theorem isNum_eq (w : W) : isNum w = match w with | .int _ => true | _ => false := by
  cases w <;> kernel_rfl
/-- a judge of one value -/
def spJ (f : W → Bool) : Sp := fun vs H Q _ => ∃ v w, vs = [v] ∧ Is H v w ∧ Q (.bl (f w)) H
/-- answers put into a new list, one at a turn -/
def PB (H1 : Hp) (D : Addr) (bs : List Bool) (i : Nat) (H : Hp) : Prop := Same H1 H ∧ H D = some (.lst ((bs.take i).map V.bl))
theorem PB.zero {H1 : Hp} {D : Addr} {bs : List Bool} (n : H1 D = none) : PB H1 D bs 0 (upd H1 D (.lst [])) := ⟨same_new n, upd_same⟩
theorem PB.step {H1 H H4 : Hp} {D : Addr} {bs : List Bool} {i : Nat} {b : Bool} (p : PB H1 D bs i H) (s : Same H H4) (n : H1 D = none) (hi : i ≤ 900) (hb : bs[i]? = some b) :
    ∃ acc, H4 D = some (.lst acc) ∧ acc.length < sizeLine ∧ PB H1 D bs (i + 1) (upd H4 D (.lst (acc ++ [.bl b]))) := by
  refine ⟨_, s _ _ p.2, ?_, same_own n (p.1.trans s), ?_⟩
  · rw [List.length_map, List.length_take]
    exact small1000 (by omega)
  · rw [upd_same, List.take_add_one, hb, List.map_append]
    rfl
theorem PB.all {H1 H : Hp} {D : Addr} {bs : List Bool} (p : PB H1 D bs bs.length H) : H D = some (.lst (bs.map V.bl)) := by
  have z := p.2
  rw [List.take_length] at z
  exact z
def LET : Str := "abcdefghijklmnopqrstuvwxyz"
def isName (x : Str) : Bool := decide (1 ≤ x.cps.size) && (decide (x.cps.size ≤ 6) && (!decide (x = "t") && x.cps.toList.all fun c => decide (c ∈ LET.cps.toList)))
def isNameW : W → Bool
  | .str x => isName x
  | _ => false
def isSeq (w : W) : Bool := isTy "list" w || isTy "tuple" w
def withinW (lo hi : Int) : W → Bool
  | .int i => decide (lo ≤ i) && decide (i ≤ hi)
  | _ => false
abbrev sNumber : Stmt := topS 7
abbrev sWithin : Stmt := topS 8
theorem scNu : FnScope ["value"] ["value"] (defScope sNumber) := ⟨rfl, rfl, rfl, by decide +kernel, rfl, by decide +kernel, by decide +kernel⟩
theorem scWi : FnScope ["value", "least", "greatest"] ["value", "least", "greatest"] (defScope sWithin) := ⟨rfl, rfl, rfl, by decide +kernel, rfl, by decide +kernel, by decide +kernel⟩
section
variable {P : Program} {w : World} {K : PySem.W.Frag} {mg : Str → Option Value} {base : Heap}
theorem ok_number {f : Addr} {fd : FuncData} (F : Fun K "is_number" "is_number" sNumber f fd) (mi : mg "isinstance" = none) (m1 : mg "int" = none) (m2 : mg "bool" = none) : FnOk P w K mg base CX0 1 f fd ["value"] (spJ isNum) := by
  have S := scNu
  refine F.ok S (fun vs H Q E h => ?_) (fun cdv A outer s H vs Q E hr h => ?_)
  · obtain ⟨v, w, rfl, _⟩ := h
    rfl
  · obtain ⟨v, w, rfl, hv, q⟩ := h
    refine ⟨_, pss_one (ps_ret (pe_and (pe_callB call_isi (by rfl) mi PyProof.Rows.boot_isinstance (pa_cons (pv 0) (pa_cons (pe_bltn (v := .ty "int") (by rfl) m1 (by decide +kernel) rfl) pa_nil)))
      (pe_one (pe_not (pe_callB call_isi (by rfl) mi PyProof.Rows.boot_isinstance (pa_cons (pv 0) (pa_cons (pe_bltn (v := .ty "bool") (by rfl) m2 (by decide +kernel) rfl) pa_nil))))))), ?_⟩
    refine ⟨_, rfl, v, .ty "int", .type (tyN w), .type "int", isTy "int" w, rfl, .ty _, hv.ty, Is.kit (by decide), _, rfl, ?_⟩
    unfold isNum at q
    cases e : isTy "int" w with
    | false =>
      rw [e] at q
      exact iteF q
    | true =>
      rw [e] at q
      refine iteT ⟨_, rfl, v, .ty "bool", .type (tyN w), .type "bool", isTy "bool" w, rfl, .ty _, hv.ty, Is.kit (by decide), _, rfl, q⟩
def spWithin : Sp := fun vs H Q _ => ∃ v w lo hi, vs = [v, .int lo, .int hi] ∧ Is H v w ∧ Q (.bl (withinW lo hi w)) H
theorem ok_within {f fN : Addr} {fd fdN : FuncData} (F : Fun K "is_within" "is_within" sWithin f fd) (GN : FnOk P w K mg base CX0 1 fN fdN ["value"] (spJ isNum)) (kN : PySem.W.keepIn K (.ref fN) = true)
    (bN : Binds K fdN ["value"] []) (gN : mg "is_number" = some (.ref fN)) : FnOk P w K mg base CX0 2 f fd ["value", "least", "greatest"] spWithin := by
  have S := scWi
  refine F.ok S (fun vs H Q E h => ?_) (fun cdv A outer s H vs Q E hr h => ?_)
  · obtain ⟨v, w, lo, hi, rfl, _⟩ := h
    rfl
  · obtain ⟨v, w, lo, hi, rfl, hv, q⟩ := h
    refine ⟨_, pss_one (ps_ret (pe_and (pe_call GN hr (by rfl) gN kN bN .nil pass0 (pa_cons (pv 0) pa_nil)) (pe_one (pe_chain op_le op_le (pv 1) (pv 0) (pv 2))))), ?_⟩
    refine ⟨_, rfl, v, w, rfl, hv, _, rfl, ?_⟩
    cases hv with
    | int i =>
      refine iteT ⟨_, rfl, _, rfl, _, _, rfl, rfl, _, rfl, ?_⟩
      have e : withinW lo hi (.int i) = (decide (lo ≤ i) && decide (i ≤ hi)) := rfl
      rw [e] at q
      cases e1 : decide (lo ≤ i) with
      | false =>
        rw [e1] at q
        exact iteF q
      | true =>
        rw [e1] at q
        exact iteT ⟨_, rfl, _, _, rfl, rfl, q⟩
    | non => exact iteF q
    | bl b => exact iteF q
    | str x _ _ => exact iteF q
    | lst _ _ _ => exact iteF q
    | tup _ _ _ => exact iteF q
    | dct _ _ _ => exact iteF q
end
end Kn
-- part EnT
set_option maxHeartbeats 4000000
/-! enumerate of a tuple. -/
namespace EnT
open PySem PySem.Spec PyProof.Rows
open AutoSeq1 (wpAny_loadPart')
/-- the two cells that come -/
abbrev itO (l : Addr) : Obj := { cls := .type "tuple_iterator", data := .fields #[.ref l, .int 0 0] }
abbrev enO (a : Addr) : Obj := { cls := .type "enumerate", data := .fields #[.none, .bool false, .ref a, rawInt 0, .none, .none] }
theorem meets_new (l : Addr) (items : Array Value) (n : Nat) (dct : Option Addr) (sl : Array (Option Value)) :
    Meets (Builtin.«enumerate.__new__» ⟨[.type "enumerate", .ref l], []⟩) (fun _ R s => s.heap.get? l = some { cls := .type "tuple", dict := dct, data := .seq items n, slots := sl } ∧
      R (.ok (.ret (.ref (s.heap.push (itO l)).objs.size))) { s with heap := (s.heap.push (itO l)).push (enO s.heap.objs.size) }) := by
  refine .of_wp fun prog w A R s h => ?_
  obtain ⟨hp, g, d, tk, os⟩ := s
  obtain ⟨hl, h⟩ := h
  have hsub := sub_enumerate
  have hL : Heap.IsTuple (Shared.heap ⟨hp, g, d, tk, os⟩) l items := ⟨_, hl, rfl, n, rfl⟩
  wp_walk using wpAny_loadPart' hl
  refine wpAny_stack_any fun st => wpAny_pure ?_
  split
  · rename_i c _ _ _ _ _
    cases (c == Value.type "enumerate") <;>
    · wp_walk using wpAny_loadPart' hl, wpAny_pyIter_tuple hL
      exact ⟨_, rfl, h⟩
  · wp_walk using wpAny_loadPart' hl, wpAny_pyIter_tuple hL
    exact ⟨_, rfl, h⟩
section
variable {prog : Program} {w : World} {A : Around} {E : Value → Shared → Prop} {s : Shared}
theorem call_enum {l : Addr} {items : Array Value} {Q : Value → Shared → Prop} (hL : s.heap.IsTuple l items)
    (h : ∀ h', IsEnum h' (s.heap.objs.size + 1) s.heap.objs.size 0 .none → h'.IsTupleIter s.heap.objs.size l 0 → (∀ b o, s.heap.get? b = some o → h'.get? b = some o) → Q (.ref (s.heap.objs.size + 1)) { s with heap := h' }) :
    wpAny (model prog w) A (call (.type "enumerate") [.ref l]) Q E s := by
  obtain ⟨⟨c, dct, dt, sl⟩, hl, hc, n, hd⟩ := hL
  obtain rfl : c = .type "tuple" := hc
  obtain rfl : dt = .seq items n := hd
  have size1 : (s.heap.push (itO l)).objs.size = s.heap.objs.size + 1 := Heap.size_push ..
  have at1 : IsEnum ((s.heap.push (itO l)).push (enO s.heap.objs.size)) (s.heap.objs.size + 1) s.heap.objs.size 0 .none := by
    have z := Heap.get?_push_size (s.heap.push (itO l)) (o := enO s.heap.objs.size) rfl
    rw [size1] at z
    exact z
  refine callType_new F.called_enumerate (by decide) (F.typeCall_enumerate_1 _) (F.newCall_enumerate_1 _) (fun obj => F.args_object_init_2 obj _) F.entry_enumerate_new (meets_new l items n dct sl) ⟨hl, ?_⟩
  show _ ∧ _
  rw [size1]
  exact ⟨⟨_, at1, rfl⟩, h _ at1 ⟨_, Heap.get?_push_of_some _ (Heap.get?_push_size _ rfl), rfl, rfl⟩ fun b o x => Heap.get?_push_of_some _ (Heap.get?_push_of_some _ x)⟩
end
end EnT
namespace L2
open PySem PySem.Spec PyProof.Rows
/-- the tuple at a, each item in a new pair -/
def IteT (K : PySem.W.Frag) (a : Addr) : It where
  go := fun i H => ∃ (xs : List V) (x : V), SqT K H a xs ∧ xs[i]? = some x
  yld := fun i H v H' => ∃ T x, v = .ref T ∧ H T = none ∧ H' = upd H T (.tup [.int (i : Nat), x]) ∧ ∀ xs, SqT K H a xs → xs[i]? = some x
  stop := fun i H => ∃ xs : List V, SqT K H a xs ∧ xs.length = i
theorem turn_enumT {P : Program} {w : World} {K : PySem.W.Frag} {elts : List Expr} {kk : Nat} {tpos : Pos} (a e it : Addr) (hai : a ≠ it) (hae : a ≠ e) :
    Turn P w K (.Tuple elts kk tpos) (IteT K a) [e, it] e (fun i h => (∃ old, IsEnum h e it ((i : Nat) : Int) old) ∧ h.IsTupleIter it a i ∧ e ≠ it) := by
  constructor
  case mem => simp
  case obj =>
    rintro i h ⟨⟨old, he⟩, ⟨o, ho, hc, hd⟩, _⟩ b hb
    rcases List.mem_cons.mp hb with z | z
    · exact ⟨_, z ▸ he, fun v q => by cases q⟩
    · obtain rfl := List.mem_singleton.mp z
      exact ⟨o, ho, fun v q => by rw [hd] at q; cases q⟩
  case keep =>
    rintro i h h' ⟨⟨old, he⟩, hi, hne⟩ k
    exact ⟨⟨old, k e (by simp) _ he⟩, hi.at fun o q => k it (by simp) o q, hne⟩
  case self =>
    rintro A i s Q E ⟨⟨_, he⟩, _⟩ h
    exact wpAny_pyIter_enum he h
  case done =>
    rintro X rfl rfl rfl hc i pins s σ H E I hf ⟨⟨old, he⟩, hit, hne⟩ ⟨xs, hq, hx⟩
    obtain ⟨its, rv, p, hz⟩ := I.tuple hq
    obtain ⟨f0, f1, f2, f3, f4, f5⟩ := hf it (by simp)
    have hl := rv.length
    have D := Draws.tuple (prog := X.prog) (w := X.w) (A := X.A.in1) (I.ok.hd hc) it a hai its.toArray
    have e1 : i = its.toArray.size := by rw [List.size_toArray, ← hl]; exact hx.symm
    refine wpAny_pyNext_enum_endD D he (e1 ▸ ⟨hit, p⟩) fun h' eb => ⟨rfl, I.turned (t' := s.toks) (fun b o hb e => eb b o hb e) f0 f1 f3 f4 f5⟩
  case item =>
    rintro X rfl rfl rfl hc i pins s σ H E I hf ⟨⟨old, he⟩, hit, hne⟩ ⟨xs, x, hq, hx⟩
    obtain ⟨its, rv, p, hz⟩ := I.tuple hq
    obtain ⟨u, hu, ru⟩ := rv.get hx
    have hel : e < s.heap.objs.size := Heap.lt_size he
    have hil : it < s.heap.objs.size := by obtain ⟨_, q, _⟩ := hit; exact Heap.lt_size q
    have D := Draws.tuple (prog := X.prog) (w := X.w) (A := X.A.in1) (I.ok.hd hc) it a hai its.toArray
    have hi : i < its.toArray.size := by
      rw [List.size_toArray]
      exact (List.getElem?_eq_some_iff.mp hu).1
    refine wpAny_pyNext_enum_itemD D he ⟨hit, p⟩ hi hne (by simp [hne, Ne.symm hae]) fun y h' tk hy ho st' hT hsz hk => ?_
    have ey : y = u := by
      have z : its.toArray[i]? = some u := by simpa using hu
      rw [z] at hy
      exact (Option.some.inj hy).symm
    subst ey
    refine ⟨_, rfl, wpAny_letOwnedTupleGo_enum (s := { s with heap := h', toks := tk + 1 }) ho fun h2 he2 sb => ?_⟩
    have hT2 : h2.get? s.heap.objs.size = some { cls := .type "tuple", data := .seq #[.int i tk, y] } := (sb.2 _ (Nat.ne_of_gt hel)).trans hT
    have nT : H s.heap.objs.size = none := I.hok.fresh (Nat.le_refl _)
    have out : ∀ b ∈ [e, it], b < s.heap.objs.size := fun b hb => by
      rcases List.mem_cons.mp hb with z | z
      · rw [z]; exact hel
      · rw [List.mem_singleton.mp z]; exact hil
    have I1 : Inv X pins σ (upd H s.heap.objs.size (.tup [.int (i : Nat), x])) { s with heap := h2, toks := tk + 1 } := by
      refine I.turnedNew (ch := [e, it]) (fun b ob hb q => ?_) hf (Nat.le_refl _) ⟨by show 2 ≤ sizeLine; decide, [.int i tk, y], .cons ⟨_, rfl⟩ (.cons ru .nil), ⟨_, hT2, rfl, _, rfl⟩⟩
      have b1 : b ≠ e := fun z => hb (by simp [z])
      have b2 : b ≠ it := fun z => hb (by simp [z])
      exact (sb.2 b b1).trans (hk b ob b1 b2 q)
    refine ⟨.ref s.heap.objs.size, _, I1, rfl, ⟨_, x, rfl, nT, rfl, fun ys hy => by rw [I.tuple_inj hy hq]; exact hx⟩, ⟨⟨y, ?_⟩, st'.1.at fun o q => (sb.2 it (Ne.symm hne)).trans q, hne⟩, fun b hb => ?_⟩
    · rw [show ((i + 1 : Nat) : Int) = (i : Int) + 1 by omega]
      exact he2
    · rw [upd_ne (Nat.ne_of_lt (out b hb))]
      exact (hf b hb).1
/-- enumerate(tuple) -/
def iEnumT (K : PySem.W.Frag) (ta : TA) : TI := fun σ H R => ta σ H fun vs H1 => ∃ a xs, vs = [.ref a] ∧ SqT K H1 a xs ∧ R (IteT K a) H1
theorem pi_enumT {X : Cx} {e : Expr} {ta : TA} {p pos tpos : Pos} {elts : List Expr} {kk : Nat} (hg : Gl X "enumerate") (hm : X.mg "enumerate" = none) (ha : PA X [e] ta) (hs : starEach [e] X.env = [(false, eval e X.env)] := by rfl) :
    PI X (.Tuple elts kk tpos) (.Call (.Name "enumerate" p) [e] [] pos) (iEnumT X.K ta) := by
  constructor
  intro pins s σ H R I h
  refine Call_ (ld_blt I hg hm boot_enumerate (PyProof.Rows.callWith_type1 (thn (ha.run pos pins s σ H _ I h) ?_) hs rfl))
  rintro us s1 ⟨vs, H1, I1, r1, q1⟩
  obtain ⟨a, xs, rfl, hq, q⟩ := q1
  cases r1 with
  | cons r rr =>
    cases rr
    cases r
    obtain ⟨its, rv, p', hz⟩ := I1.tuple hq
    have hal : a < s1.heap.objs.size := p'.lt
    refine EnT.call_enum p' fun h' he hit hk => wpAny_pyIter_enum he ⟨s1.heap.objs.size + 1, [s1.heap.objs.size + 1, s1.heap.objs.size], _, _, H1, rfl, I1.kept (t' := s1.toks) hk,
      turn_enumT a (s1.heap.objs.size + 1) s1.heap.objs.size (Nat.ne_of_lt hal) (Nat.ne_of_lt (Nat.lt_succ_of_lt hal)), ⟨⟨.none, he⟩, hit, Nat.succ_ne_self _⟩, fun b hb => ?_, q⟩
    have hle : s1.heap.objs.size ≤ b := by
      rcases List.mem_cons.mp hb with z | z
      · rw [z]; exact Nat.le_succ _
      · rw [List.mem_singleton.mp z]; exact Nat.le_refl _
    exact I1.fpOk hle (I1.hok.fresh hle)
theorem walk_enumT {K : PySem.W.Frag} {a : Addr} {xs : List V} : Walk (IteT K a) xs.length (fun H => SqT K H a xs) (YPair (fun i => some (.int (i : Nat))) (fun i => xs[i]?)) := by
  constructor
  · intro i H hi q
    exact ⟨xs, xs[i], q, by simp [hi]⟩
  · intro H q
    exact ⟨xs, q, rfl⟩
  · rintro i H v H' _ q ⟨T, x, h1, h2, h3, h4⟩
    exact ⟨T, .int (i : Nat), x, h1, h2, h3, rfl, h4 xs q⟩
end L2
-- part TRead
set_option maxHeartbeats 4000000
/-! Reading of any value: tuples, dicts' values and keys; is_list, is_tuple_of. -/
namespace Kn
open PySem PySem.Spec PyProof.Rows L2
theorem IsAll.get {H : Hp} : ∀ {vs : List V} {ws : List W} {i : Nat} {x : V}, IsAll H vs ws → vs[i]? = some x → ∃ w, ws[i]? = some w ∧ Is H x w
  | _, _, 0, x, .cons h _, e => by
    cases e
    exact ⟨_, rfl, h⟩
  | _, _, i + 1, x, .cons _ t, e => by
    obtain ⟨w, e1, e2⟩ := t.get (i := i) (by simpa using e)
    exact ⟨w, by simpa using e1, e2⟩
/-- at a a list or a tuple -/
def keyW : Key → W
  | .inl i => .int i
  | .inr x => .str x
theorem IsKV.len {H : Hp} : ∀ {vs : List (Option Key × V)} {ws : List (Option Key × W)}, IsKV H vs ws → vs.length = ws.length
  | _, _, .nil => rfl
  | _, _, .cons _ _ t => congrArg (· + 1) t.len
theorem IsKV.keys {H : Hp} : ∀ {vs : List (Option Key × V)} {ws : List (Option Key × W)}, IsKV H vs ws → vs.map (·.1) = ws.map (·.1)
  | _, _, .nil => rfl
  | _, _, .cons _ _ t => congrArg (_ :: ·) t.keys
theorem IsKV.sm {H : Hp} : ∀ {vs : List (Option Key × V)} {ws : List (Option Key × W)}, IsKV H vs ws → ∀ p ∈ vs, kSm p.1
  | _, _, .nil, p, hp => by cases hp
  | _, _, .cons hk _ t, p, hp => by
    rcases List.mem_cons.mp hp with e | e
    · rw [e]; exact hk
    · exact t.sm p e
theorem same_unlock {H H3 : Hp} {d : Addr} {u : HO} {od : Obj} (hd : H d = some u) (s : Same (upd H d (.frz od u)) H3) : Same H (upd H3 d u) := fun b o e => by
  by_cases h : b = d
  · rw [h, hd] at e
    rw [h, upd_same]
    exact e
  · rw [upd_ne h]
    exact s b o (by rw [upd_ne h]; exact e)
/-- values put into a new list, one at a turn -/
def PV (H1 : Hp) (D : Addr) (vs : List V) (i : Nat) (H : Hp) : Prop := Same H1 H ∧ H D = some (.lst (vs.take i))
theorem PV.zero {H1 : Hp} {D : Addr} {vs : List V} (n : H1 D = none) : PV H1 D vs 0 (upd H1 D (.lst [])) := ⟨same_new n, upd_same⟩
theorem PV.step {H1 H H4 : Hp} {D : Addr} {vs : List V} {i : Nat} {v : V} (p : PV H1 D vs i H) (s : Same H H4) (n : H1 D = none) (hi : i ≤ 900) (hv : vs[i]? = some v) :
    ∃ acc, H4 D = some (.lst acc) ∧ acc.length < sizeLine ∧ PV H1 D vs (i + 1) (upd H4 D (.lst (acc ++ [v]))) := by
  refine ⟨_, s _ _ p.2, ?_, same_own n (p.1.trans s), ?_⟩
  · rw [List.length_take]
    exact small1000 (by omega)
  · rw [upd_same, List.take_add_one, hv]
    rfl
theorem PV.all {H1 H : Hp} {D : Addr} {vs : List V} (p : PV H1 D vs vs.length H) : H D = some (.lst vs) := by
  have z := p.2
  rw [List.take_length] at z
  exact z
theorem IsKV.val {H : Hp} : ∀ {ks : List (Key × V)} {kws : List (Option Key × W)} {i : Nat} {k : Key} {x : V}, IsKV H (ks.map fun p => (some p.1, p.2)) kws → ks[i]? = some (k, x) → ∃ w, kws[i]? = some (some k, w) ∧ Is H x w
  | (k0, v0) :: ks, _, 0, k, x, .cons _ h _, e => by
    cases e
    exact ⟨_, rfl, h⟩
  | (k0, v0) :: ks, _, i + 1, k, x, .cons _ _ t, e => by
    obtain ⟨w, e1, e2⟩ := IsKV.val (ks := ks) (i := i) t (by simpa using e)
    exact ⟨w, by simpa using e1, e2⟩
theorem IsKV.sm1 {H : Hp} {ks : List (Key × V)} {kws : List (Option Key × W)} {i : Nat} {k : Key} {x : V} (h : IsKV H (ks.map fun p => (some p.1, p.2)) kws) (e : ks[i]? = some (k, x)) : kSm (some k) :=
  h.sm (some k, x) (List.mem_map.mpr ⟨(k, x), List.mem_of_getElem? e, rfl⟩)
theorem is_key {H : Hp} {k : Key} (h : kSm (some k)) : Is H (kV k) (keyW k) := by
  cases k with
  | inl i => exact .int i
  | inr x => exact .str x h.1 h.2
/-- r([te for x in d.values()]), d locked meanwhile: te gives vs, one after the other -/
theorem vals_read {r : List V → Hp → VK → Prop} {te : TE} {σ : L2.St} {H : Hp} {Q : VK} {a : Addr} {ks : List (Key × V)} {kws : List (Option Key × W)} {vs : List V} {j n : Nat} (h0 : σ[j]? = some (some (.ref a))) (hd : H a = some (.dK ks))
    (hkv : IsKV H (ks.map fun p => (some p.1, p.2)) kws) (hz : ks.length ≤ 900) (hl : vs.length = ks.length)
    (step : ∀ (od : Obj) (i : Nat) (x v : V) (k : Key) (wi : W) (H4 : Hp), ks[i]? = some (k, x) → kws[i]? = some (some k, wi) → vs[i]? = some v → Same (upd H a (.frz od (.dK ks))) H4 → Is H4 x wi → ∀ R : VK, (∀ H5, Same H4 H5 → R v H5) → te ((wipe σ [n]).set n (some x)) H4 R)
    (fin : ∀ (od : Obj) (D : Addr) (H3 : Hp), Same (upd H a (.frz od (.dK ks))) H3 → H3 D = some (.lst vs) → r [.ref D] H3 (fun v H' => H' a = some (.frz od (.dK ks)) ∧ Q v (upd H' a (.dK ks))))
    (hw : ∀ x, wipe ((wipe σ [n]).set n (some x)) [n] = wipe σ [n]) : tLockE (tCB r (tCons (tLc (iVals (tVar j)) (gName n) tYes te [n]) tNil)) σ H Q := by
  refine ⟨a, _, hd, trivial, fun od => ?_⟩
  refine ⟨_, h0, a, od, ks, rfl, upd_same, fun D nD => lc_it (D := D) walk_values (PV (upd H a (.frz od (.dK ks))) D vs) (PV.zero nD) (fun i H' _ p => p.1 _ _ upd_same) ?_ ?_⟩
  · rintro i x H3 H4 hi p ⟨rfl, k, hk⟩
    obtain ⟨wi, hwi, his⟩ := hkv.val hk
    refine ⟨hw x, ?_⟩
    dsimp only [tYes]
    rw [if_pos rfl]
    have hv : vs[i]? = some (vs[i]'(by omega)) := List.getElem?_eq_getElem (by omega)
    exact step od i x _ k wi H4 hk hwi hv p.1 ((his.lock hd).same p.1) _ fun H5 s5 => p.step s5 nD (by omega) hv
  · intro H3 p
    rw [← hl] at p
    exact fin od D H3 p.1 p.all
/-- the same over the keys -/
theorem keys_read {r : List V → Hp → VK → Prop} {te : TE} {σ : L2.St} {H : Hp} {Q : VK} {a : Addr} {ks : List (Key × V)} {vs : List V} {j n : Nat} (h0 : σ[j]? = some (some (.ref a))) (hd : H a = some (.dK ks))
    (hz : ks.length ≤ 900) (hl : vs.length = ks.length)
    (step : ∀ (od : Obj) (i : Nat) (v x : V) (k : Key) (H4 : Hp), ks[i]? = some (k, x) → vs[i]? = some v → Same (upd H a (.frz od (.dK ks))) H4 → ∀ R : VK, (∀ H5, Same H4 H5 → R v H5) → te ((wipe σ [n]).set n (some (kV k))) H4 R)
    (fin : ∀ (od : Obj) (D : Addr) (H3 : Hp), Same (upd H a (.frz od (.dK ks))) H3 → H3 D = some (.lst vs) → r [.ref D] H3 (fun v H' => H' a = some (.frz od (.dK ks)) ∧ Q v (upd H' a (.dK ks))))
    (hw : ∀ x, wipe ((wipe σ [n]).set n (some x)) [n] = wipe σ [n]) : tLockE (tCB r (tCons (tLc (iKeys (tVar j)) (gName n) tYes te [n]) tNil)) σ H Q := by
  refine ⟨a, _, hd, trivial, fun od => ?_⟩
  refine ⟨_, h0, a, od, rfl, .inl ⟨ks, upd_same, fun D nD => lc_it (D := D) walk_keys (PV (upd H a (.frz od (.dK ks))) D vs) (PV.zero nD) (fun i H' _ p => p.1 _ _ upd_same) ?_ ?_⟩⟩
  · rintro i x H3 H4 hi p ⟨rfl, k, v0, hk, rfl⟩
    refine ⟨hw _, ?_⟩
    dsimp only [tYes]
    rw [if_pos rfl]
    have hv : vs[i]? = some (vs[i]'(by omega)) := List.getElem?_eq_getElem (by omega)
    exact step od i _ v0 k H4 hk hv p.1 _ fun H5 s5 => p.step s5 nD (by omega) hv
  · intro H3 p
    rw [← hl] at p
    exact fin od D H3 p.1 p.all
theorem NF.dict {H : Hp} {v : V} {kws : List (Option Key × W)} (h : Is H v (.dct kws)) (nf : NF H v) : ∃ a ks, v = .ref a ∧ H a = some (.dK ks) ∧ IsKV H (ks.map fun p => (some p.1, p.2)) kws ∧ ks.length ≤ 900 ∧ ks.length = kws.length := by
  cases h with
  | @dct a kvs _ hz hd hkv =>
    obtain ⟨ks, hd, rfl⟩ := hd
    rw [List.length_map] at hz
    have lk := hkv.len
    rw [List.length_map] at lk
    rcases hd with hd | ⟨o, hd⟩
    · exact ⟨a, ks, rfl, hd, hkv, hz, lk⟩
    · exact absurd hd (nf a o _ rfl)
abbrev sIsList : Stmt := topS 9
abbrev sTupOf : Stmt := topS 10
theorem scIl : FnScope ["value"] ["value"] (defScope sIsList) := ⟨rfl, rfl, rfl, by decide +kernel, rfl, by decide +kernel, by decide +kernel⟩
theorem scTo : FnScope ["value", "many"] ["value", "many"] (defScope sTupOf) := ⟨rfl, rfl, rfl, by decide +kernel, rfl, by decide +kernel, by decide +kernel⟩
def isTupOf (n : Int) : W → Bool
  | .tup ws => decide ((ws.length : Int) = n)
  | _ => false
theorem IsAll.len {H : Hp} : ∀ {vs : List V} {ws : List W}, IsAll H vs ws → vs.length = ws.length
  | _, _, .nil => rfl
  | _, _, .cons _ t => congrArg (· + 1) t.len
def spTupOf : Sp := fun vs H Q _ => ∃ v w n, vs = [v, .int n] ∧ Is H v w ∧ Q (.bl (isTupOf n w)) H
section
variable {P : Program} {w : World} {K : PySem.W.Frag} {mg : Str → Option Value} {base : Heap}
theorem ok_isList {f : Addr} {fd : FuncData} (F : Fun K "is_list" "is_list" sIsList f fd) (mi : mg "isinstance" = none) (m1 : mg "list" = none) (m2 : mg "tuple" = none) : FnOk P w K mg base CX0 1 f fd ["value"] (fun vs H Q _ => ∃ v w, vs = [v] ∧ Is H v w ∧ ∀ H', Same H H' → Q (.bl (isSeq w)) H') := by
  have S := scIl
  refine F.ok S (fun vs H Q E h => ?_) (fun cdv A outer s H vs Q E hr h => ?_)
  · obtain ⟨v, w, rfl, _⟩ := h
    rfl
  · obtain ⟨v, w, rfl, hv, q⟩ := h
    refine ⟨_, pss_one (ps_ret (pe_callB call_isiT (by rfl) mi PyProof.Rows.boot_isinstance (pa_cons (pv 0) (pa_cons (pe_tup (pa_cons (pe_bltn (v := .ty "list") (by rfl) m1 (by decide +kernel) rfl) (pa_cons (pe_bltn (v := .ty "tuple") (by rfl) m2 (by decide +kernel) rfl) pa_nil))) pa_nil)))), ?_⟩
    refine ⟨_, rfl, by show 2 ≤ sizeLine; decide, fun t nt => ?_⟩
    refine ⟨v, t, _, .type (tyN w), [.type "list", .type "tuple"], isSeq w, rfl, upd_same, .cons (.ty _) (.cons (.ty _) .nil), (hv.same (same_new nt)).ty, ?_, q _ (same_new nt)⟩
    refine kitAny_cons (b := isTy "list" w) (Is.kit (by decide)) (fun e => kitAny_cons (b := isTy "tuple" w) (Is.kit (by decide)) (fun e2 => ?_) (fun e2 => ?_)) (fun e => ?_)
    · unfold isSeq; rw [e, e2]; exact kitAny_nil
    · unfold isSeq; rw [e, e2]; rfl
    · unfold isSeq; rw [e]; rfl
theorem ok_tupOf {f : Addr} {fd : FuncData} (F : Fun K "is_tuple_of" "is_tuple_of" sTupOf f fd) (mi : mg "isinstance" = none) (m1 : mg "tuple" = none) (ml : mg "len" = none) : FnOk P w K mg base CX0 1 f fd ["value", "many"] spTupOf := by
  have S := scTo
  refine F.ok S (fun vs H Q E h => ?_) (fun cdv A outer s H vs Q E hr h => ?_)
  · obtain ⟨v, w, n, rfl, _⟩ := h
    rfl
  · obtain ⟨v, w, n, rfl, hv, q⟩ := h
    refine ⟨_, pss_one (ps_ret (pe_and (pe_callB call_isi (by rfl) mi PyProof.Rows.boot_isinstance (pa_cons (pv 0) (pa_cons (pe_bltn (v := .ty "tuple") (by rfl) m1 (by decide +kernel) rfl) pa_nil)))
      (pe_one (pe_cmpR op_eq (pe_callB call_len_seq (by rfl) ml PySem.boot_len (pa_cons (pv 0) pa_nil)) (pv 1) (nomark _))))), ?_⟩
    refine ⟨_, rfl, v, .ty "tuple", .type (tyN w), .type "tuple", isTy "tuple" w, rfl, .ty _, hv.ty, Is.kit (by decide), _, rfl, ?_⟩
    cases hv with
    | @tup a xs ws hz e t =>
      have e1 : isTy "tuple" (.tup ws) = true := by kernel_rfl
      rw [e1]
      refine iteT ⟨_, rfl, a, xs, rfl, .inr (.inl e), _, rfl, rfl, ?_⟩
      have e2 : decide (V.int (xs.length : Nat) = V.int n) = isTupOf n (.tup ws) := by
        rw [t.len]
        show _ = decide ((ws.length : Int) = n)
        by_cases h : (ws.length : Int) = n
        · rw [decide_eq_true h, decide_eq_true (by rw [h])]
        · rw [decide_eq_false h, decide_eq_false fun z => h (V.int.inj z)]
      rw [e2]
      exact q
    | non => exact iteF q
    | bl b => exact iteF q
    | int i => exact iteF q
    | str x _ _ => exact iteF q
    | lst _ _ _ => exact iteF q
    | dct _ _ _ => exact iteF q
end
end Kn
-- part TJud
set_option maxHeartbeats 4000000
/-! are_numbers, is_seat, is_tuple_of_numbers, are_alike_wide. -/
namespace Kn
open PySem PySem.Spec PyProof.Rows L2
abbrev sNums : Stmt := topS 12
abbrev sSeat : Stmt := topS 18
abbrev sTupN : Stmt := topS 19
abbrev sWide : Stmt := topS 20
abbrev NNu : List Str := ["value", "many", "number"]
abbrev NWd : List Str := ["rows", "row"]
theorem scNus : FnScope NNu ["value", "many"] (defScope sNums) := ⟨rfl, rfl, rfl, by decide +kernel, rfl, by decide +kernel, by decide +kernel⟩
theorem scSeat : FnScope ["value"] ["value"] (defScope sSeat) := ⟨rfl, rfl, rfl, by decide +kernel, rfl, by decide +kernel, by decide +kernel⟩
theorem scTupN : FnScope ["value"] ["value"] (defScope sTupN) := ⟨rfl, rfl, rfl, by decide +kernel, rfl, by decide +kernel, by decide +kernel⟩
theorem scWide : FnScope NWd ["rows"] (defScope sWide) := ⟨rfl, rfl, rfl, by decide +kernel, rfl, by decide +kernel, by decide +kernel⟩
/-- a tuple of n numbers -/
def numsW (n : Int) : W → Bool
  | .tup ws => decide ((ws.length : Int) = n) && ws.all isNum
  | _ => false
/-- a tuple of at most 45 numbers -/
def tupNW : W → Bool
  | .tup ws => decide ((ws.length : Int) ≤ 45) && ws.all isNum
  | _ => false
def lenW : W → Nat
  | .tup ws => ws.length
  | _ => 0
/-- all as wide as the first -/
def wideW : List W → Bool
  | [] => true
  | w :: ws => (w :: ws).all fun x => decide (lenW x = lenW w)
def isTupW : W → Bool
  | .tup _ => true
  | _ => false
def spNums : Sp := fun vs H Q _ => ∃ v w n, vs = [v, .int n] ∧ Is H v w ∧ ∀ H', Same H H' → Q (.bl (numsW n w)) H'
def spSeat : Sp := fun vs H Q _ => ∃ v w, vs = [v] ∧ Is H v w ∧ Q (.bl (withinW 1 9 w)) H
def spTupN : Sp := fun vs H Q _ => ∃ v w, vs = [v] ∧ Is H v w ∧ ∀ H', Same H H' → Q (.bl (tupNW w)) H'
def spWide : Sp := fun vs H Q _ => ∃ a xs ws, vs = [.ref a] ∧ H a = some (.lst xs) ∧ IsAll H xs ws ∧ xs.length ≤ 900 ∧ (∀ w ∈ ws, isTupW w = true) ∧ ∀ H', Same H H' → Q (.bl (wideW ws)) H'
def rLenS (K : PySem.W.Frag) : List V → Hp → VK → Prop := fun xs H Q => ∃ p ys, xs = [.ref p] ∧ (SqL K H p ys ∨ SqT K H p ys) ∧ Q (.int (ys.length : Nat)) H
/-- a module's number -/
theorem pe_known {X : Cx} {x : Str} {i : Int} {pos : Pos} (hg : Gl X x) (h : ∃ u, X.mg x = some u ∧ RelV (.int i) u) (hd : (x == ("__debug__" : Str)) = false := by decide) : PE X (.Name x pos) (tC (.int i)) := by
  obtain ⟨u, e, r⟩ := h
  exact pe_glob hg e r hd
section
variable {P : Program} {w : World} {K : PySem.W.Frag} {mg : Str → Option Value} {base : Heap}
theorem ok_nums {f f1 f2 : Addr} {fd fd1 fd2 : FuncData} (F : Fun K "are_numbers" "are_numbers" sNums f fd) (G1 : FnOk P w K mg base CX0 1 f1 fd1 ["value", "many"] spTupOf) (k1 : PySem.W.keepIn K (.ref f1) = true) (b1 : Binds K fd1 ["value", "many"] []) (g1 : mg "is_tuple_of" = some (.ref f1))
    (G2 : FnOk P w K mg base CX0 1 f2 fd2 ["value"] (spJ isNum)) (k2 : PySem.W.keepIn K (.ref f2) = true) (b2 : Binds K fd2 ["value"] []) (g2 : mg "is_number" = some (.ref f2)) (ma : mg "all" = none) : FnOk P w K mg base CX0 2 f fd ["value", "many"] spNums := by
  have S := scNus
  refine F.ok S (fun vs H Q E h => ?_) (fun cdv A outer s H vs Q E hr h => ?_)
  · obtain ⟨v, u, n, rfl, _⟩ := h
    rfl
  · obtain ⟨v, u, n, rfl, hv, q⟩ := h
    refine ⟨_, pss_one (ps_ret (pe_and (pe_call G1 hr (by rfl) g1 k1 b1 .nil pass0 (pa_cons (pv 0) (pa_cons (pv 1) pa_nil))) (pe_one (pe_callB (cr_all (by rfl)) (by rfl) ma (by decide +kernel) (pa_cons (pe_lc (own := [("number", 2)]) (g := gName 2) rfl S.nd (pi_tup (pv 0)) (blkOk_by (N := NNu) (sc := defScope sNums) (by decide +kernel)) (fun _ _ _ _ _ => pg_name (i := 2) S.nd rfl (.inl rfl)) (fun _ _ _ _ _ => pts_nil)
          (fun _ _ _ _ _ => pe_call G2 hr (by rfl) g2 k2 b2 .nil pass0 (pa_cons (pv 2) pa_nil))) pa_nil))))), ?_⟩
    refine ⟨_, rfl, _, rfl, v, u, n, rfl, hv, _, rfl, ?_⟩
    cases hv with
    | @tup p xs ws hz e t =>
      have el : ws.length = xs.length := t.len.symm
      have ev : numsW n (.tup ws) = (isTupOf n (.tup ws) && ws.all isNum) := rfl
      cases e1 : isTupOf n (.tup ws) with
      | false =>
        rw [e1] at ev
        have z := q H (Same.refl _)
        rw [ev] at z
        exact iteF z
      | true =>
        rw [e1, Bool.true_and] at ev
        have wk : Walk (Itt K p) xs.length (fun H' => Same H H') (YAt xs) := walk_tup.mono (fun H' s => .inl (Rd.same e s)) (fun _ _ _ _ _ _ y => y)
        refine iteT ⟨_, rfl, p, rfl, ⟨xs, .inl e⟩, fun D nD => lc_it (D := D) wk (PB H D (ws.map isNum)) (PB.zero nD) (fun _ _ _ p => p.1) ?_ ?_⟩
        · rintro i x H3 H4 hi pb ⟨rfl, hx⟩
          obtain ⟨wi, hwi, his⟩ := t.get hx
          refine ⟨rfl, ?_⟩
          dsimp only [tYes]
          rw [if_pos rfl]
          exact ⟨_, rfl, x, wi, rfl, his.same pb.1, pb.step (Same.refl _) nD (by omega) (by rw [List.getElem?_map, hwi]; rfl)⟩
        · intro H1 pb
          have hl : (ws.map isNum).length = xs.length := by rw [List.length_map, el]
          rw [← hl] at pb
          refine ⟨D, _, rfl, SqL.of pb.all, ?_⟩
          rw [show (ws.map isNum).all id = ws.all isNum by rw [List.all_map]; rfl, ← ev]
          exact q H1 pb.1
    | _ => exact iteF (q H (Same.refl _))
theorem ok_seat {f f1 : Addr} {fd fd1 : FuncData} (F : Fun K "is_seat" "is_seat" sSeat f fd) (G1 : FnOk P w K mg base CX0 2 f1 fd1 ["value", "least", "greatest"] spWithin) (k1 : PySem.W.keepIn K (.ref f1) = true) (b1 : Binds K fd1 ["value", "least", "greatest"] []) (g1 : mg "is_within" = some (.ref f1))
    (mh : ∃ u, mg "HIGHEST_SEAT" = some u ∧ RelV (.int 9) u) : FnOk P w K mg base CX0 3 f fd ["value"] spSeat := by
  have S := scSeat
  refine F.ok S (fun vs H Q E h => ?_) (fun cdv A outer s H vs Q E hr h => ?_)
  · obtain ⟨v, u, rfl, _⟩ := h
    rfl
  · obtain ⟨v, u, rfl, hv, q⟩ := h
    refine ⟨_, pss_one (ps_ret (pe_call G1 hr (by rfl) g1 k1 b1 .nil pass0 (pa_cons (pv 0) (pa_cons pe_int (pa_cons (pe_known (by rfl) mh) pa_nil))))), ?_⟩
    exact ⟨_, rfl, v, u, 1, 9, rfl, hv, q⟩
theorem ok_tupN {f f1 : Addr} {fd fd1 : FuncData} (F : Fun K "is_tuple_of_numbers" "is_tuple_of_numbers" sTupN f fd) (G1 : FnOk P w K mg base CX0 2 f1 fd1 ["value", "many"] spNums) (k1 : PySem.W.keepIn K (.ref f1) = true) (b1 : Binds K fd1 ["value", "many"] []) (g1 : mg "are_numbers" = some (.ref f1))
    (mi : mg "isinstance" = none) (m1 : mg "tuple" = none) (ml : mg "len" = none) (mw : ∃ u, mg "WIDEST" = some u ∧ RelV (.int 45) u) : FnOk P w K mg base CX0 3 f fd ["value"] spTupN := by
  have S := scTupN
  refine F.ok S (fun vs H Q E h => ?_) (fun cdv A outer s H vs Q E hr h => ?_)
  · obtain ⟨v, u, rfl, _⟩ := h
    rfl
  · obtain ⟨v, u, rfl, hv, q⟩ := h
    refine ⟨_, pss_one (ps_ret (pe_and (pe_callB call_isi (by rfl) mi PyProof.Rows.boot_isinstance (pa_cons (pv 0) (pa_cons (pe_bltn (v := .ty "tuple") (by rfl) m1 (by decide +kernel) rfl) pa_nil)))
      (pe_and (pe_cmpR op_le (pe_callB call_len_seq (by rfl) ml PySem.boot_len (pa_cons (pv 0) pa_nil)) (pe_known (by rfl) mw) (nomark _)) (pe_one (pe_call G1 hr (by rfl) g1 k1 b1 .nil pass0 (pa_cons (pv 0) (pa_cons (pe_callB call_len_seq (by rfl) ml PySem.boot_len (pa_cons (pv 0) pa_nil)) pa_nil))))))), ?_⟩
    refine ⟨_, rfl, v, .ty "tuple", .type (tyN u), .type "tuple", isTy "tuple" u, rfl, .ty _, hv.ty, Is.kit (by decide), _, rfl, ?_⟩
    cases hv with
    | @tup a xs ws hz e t =>
      have e1 : isTy "tuple" (.tup ws) = true := by kernel_rfl
      rw [e1]
      have el : xs.length = ws.length := t.len
      refine iteT ⟨_, rfl, a, xs, rfl, .inr (.inl e), _, _, rfl, rfl, _, rfl, ?_⟩
      have en : numsW (ws.length : Int) (.tup ws) = ws.all isNum := by
        show (decide _ && _) = _
        rw [decide_eq_true rfl, Bool.true_and]
      have ev : tupNW (.tup ws) = (decide ((ws.length : Int) ≤ 45) && ws.all isNum) := rfl
      cases e2 : decide ((ws.length : Int) ≤ 45) with
      | false =>
        rw [e2] at ev
        have z := q H (Same.refl _)
        rw [ev] at z
        rw [el, e2]
        exact iteF z
      | true =>
        rw [e2, Bool.true_and] at ev
        rw [ev] at q
        rw [el, e2]
        refine iteT ⟨_, rfl, _, rfl, a, xs, rfl, .inr (.inl e), .ref a, .tup ws, (ws.length : Int), by rw [el]; rfl, .tup hz e t, fun H' s => ?_⟩
        rw [en]
        exact q H' s
    | _ => exact iteF (q H (Same.refl _))
theorem ok_wide {f : Addr} {fd : FuncData} (F : Fun K "are_alike_wide" "are_alike_wide" sWide f fd) (ma : mg "all" = none) (ml : mg "len" = none) : FnOk P w K mg base CX0 1 f fd ["rows"] spWide := by
  have S := scWide
  refine F.ok S (fun vs H Q E h => ?_) (fun cdv A outer s H vs Q E hr h => ?_)
  · obtain ⟨a, xs, ws, rfl, _⟩ := h
    rfl
  · obtain ⟨a, xs, ws, rfl, ha, t, hz, tp, q⟩ := h
    refine ⟨_, pss_one (ps_ret (pe_callB (cr_all (by rfl)) (by rfl) ma (by decide +kernel) (pa_cons (pe_lc (own := [("row", 1)]) (g := gName 1) rfl S.nd (pi_list (pv 0)) (blkOk_by (N := NWd) (sc := defScope sWide) (by decide +kernel)) (fun _ _ _ _ _ => pg_name (i := 1) S.nd rfl (.inl rfl)) (fun _ _ _ _ _ => pts_nil)
          (fun _ _ _ _ _ => pe_cmpR op_eq (pe_callB (show CallR _ (.builtin "len") (rLenS K) from call_len_seq) (by rfl) ml PySem.boot_len (pa_cons (pv 1) pa_nil)) (pe_callB (show CallR _ (.builtin "len") (rLenS K) from call_len_seq) (by rfl) ml PySem.boot_len (pa_cons (pe_ix (show IxR _ (rIxL K) from ix_list) (pv 0) pe_int (fun _ _ => rfl)) pa_nil)) (nomark _))) pa_nil))), ?_⟩
    have el : ws.length = xs.length := t.len.symm
    have row : ∀ {i : Nat} {x : V} {wi : W} {H' : Hp}, ws[i]? = some wi → Is H' x wi → ∃ p ys, x = .ref p ∧ Rd H' p (.tup ys) ∧ ys.length = lenW wi := fun {i x wi H'} hw hi => by
      have z := tp wi (List.mem_of_getElem? hw)
      cases hi with
      | tup hz e t => exact ⟨_, _, rfl, e, t.len⟩
      | _ => cases z
    refine ⟨_, rfl, a, rfl, ⟨_, SqL.of ha⟩, fun D nD => lc_it (D := D) walk_list (PB H D (ws.map fun x => decide (lenW x = lenW (ws.headD .non)))) (PB.zero nD) (fun i H' _ p => SqL.of (p.1 _ _ ha)) ?_ ?_⟩
    · rintro i x H3 H4 hi pb ⟨rfl, hx⟩
      obtain ⟨wi, hwi, his⟩ := t.get hx
      obtain ⟨p, ys, rfl, r1, l1⟩ := row hwi (his.same pb.1)
      have h0 : 0 < xs.length := by omega
      have hx0 : xs[0]? = some xs[0] := List.getElem?_eq_getElem h0
      obtain ⟨w0, hw0, his0⟩ := t.get hx0
      obtain ⟨p0, ys0, e0, r0, l0⟩ := row hw0 (his0.same pb.1)
      have ew0 : ws.headD .non = w0 := by
        cases ws with
        | nil => cases hw0
        | cons a b => cases hw0; rfl
      refine ⟨rfl, ?_⟩
      dsimp only [tYes]
      rw [if_pos rfl]
      refine ⟨_, rfl, p, ys, rfl, .inr (.inl r1), _, rfl, a, xs, 0, .ref p0, rfl, rfl, SqL.of (pb.1 _ _ ha), at_of (j := 0) rfl (by rw [← e0]; exact hx0), p0, ys0, rfl, .inr (.inl r0), rfl, ?_⟩
      refine pb.step (Same.refl _) nD (by omega) ?_
      rw [List.getElem?_map, hwi, l1, l0, ew0]
      refine congrArg some ?_
      show decide (lenW wi = lenW w0) = _
      by_cases z : lenW wi = lenW w0
      · rw [decide_eq_true z, decide_eq_true (by rw [z])]
      · rw [decide_eq_false z, decide_eq_false fun y => z (by injection y with y; exact Int.ofNat.inj y)]
    · intro H1 pb
      have hl : (ws.map fun x => decide (lenW x = lenW (ws.headD .non))).length = xs.length := by rw [List.length_map, el]
      rw [← hl] at pb
      refine ⟨D, _, rfl, SqL.of pb.all, ?_⟩
      have ev : (ws.map fun x => decide (lenW x = lenW (ws.headD .non))).all id = wideW ws := by
        rw [List.all_map]
        cases ws <;> rfl
      rw [ev]
      exact q H1 pb.1
end
end Kn
-- part TMulA
set_option maxHeartbeats 4000000
/-! A tuple of one, any number of times: nought and one too. -/
namespace L2
open PySem PySem.Spec PyProof.Rows
theorem tmul_self (l : Addr) (items : Array Value) (n : Nat) (dd : Option Addr) (sl : Array (Option Value)) (x : Int) (u : Tok) (c0 : (decide (x < -(2 ^ 63)) || decide (x ≥ 2 ^ 63)) = false) (c1 : (items.isEmpty || x == 1) = true) :
    Meets (Builtin.«tuple.__mul__» ⟨[.ref l, .int x u], []⟩) (fun _ R s => s.heap.get? l = some { cls := .type "tuple", dict := dd, data := .seq items n, slots := sl } ∧ R (.ok (.ret (.ref l))) s) :=
  .of_wp fun prog w A R s h => by
    obtain ⟨hp, g, d, tk, os⟩ := s
    obtain ⟨hl, h⟩ := h
    have f1 := AutoSeq1.idx_int
    wp_walk using wpAny_loadPart' hl
    repeat (first
      | (refine wpAny_ite_false (decide_eq_false (by rw [c0]; exact Bool.false_ne_true)) ?_; wp_walk using wpAny_loadPart' hl)
      | (refine wpAny_ite_true (decide_eq_true c1) ?_; wp_walk using wpAny_loadPart' hl))
    exact ⟨_, rfl, h⟩
theorem tmul_none (l : Addr) (items : Array Value) (n : Nat) (dd : Option Addr) (sl : Array (Option Value)) (x : Int) (u : Tok) (c0 : (decide (x < -(2 ^ 63)) || decide (x ≥ 2 ^ 63)) = false) (c1 : (items.isEmpty || x == 1) = false) (c2 : (decide (x ≤ 0) || items.isEmpty) = true) :
    Meets (Builtin.«tuple.__mul__» ⟨[.ref l, .int x u], []⟩) (fun _ R s => s.heap.get? l = some { cls := .type "tuple", dict := dd, data := .seq items n, slots := sl } ∧
      R (.ok (.ret (Value.ref s.heap.objs.size))) { s with heap := s.heap.push { cls := Value.type "tuple", data := Data.seq #[] }, toks := s.toks }) :=
  .of_wp fun prog w A R s h => by
    obtain ⟨hp, g, d, tk, os⟩ := s
    obtain ⟨hl, h⟩ := h
    have f1 := AutoSeq1.idx_int
    wp_walk using wpAny_loadPart' hl
    repeat (first
      | (refine wpAny_ite_false (decide_eq_false (by rw [c0]; exact Bool.false_ne_true)) ?_; wp_walk using wpAny_loadPart' hl)
      | (refine wpAny_ite_false (decide_eq_false (by rw [c1]; exact Bool.false_ne_true)) ?_; wp_walk using wpAny_loadPart' hl)
      | (refine wpAny_ite_true (decide_eq_true c2) ?_; wp_walk using wpAny_loadPart' hl))
    exact ⟨_, rfl, h⟩
def rRepA (K : PySem.W.Frag) : R2 := fun x y H Q => ∃ l k xs, x = .ref l ∧ y = .int k ∧ SqT K H l xs ∧ xs ≠ [] ∧ 0 ≤ k ∧ k ≤ 1000 ∧ xs.length ≤ 1000 ∧ (k = 1 → Q (.ref l) H) ∧ (k ≠ 1 → ∀ p, H p = none → Q (.ref p) (upd H p (.tup (List.replicate k.toNat xs).flatten)))
section
variable {X : Cx}
theorem op_repA : OpR X (binaryOp .Mult) (rRepA X.K) := by
  intro pins s σ H x y v u Q I rx ry h
  obtain ⟨l, k, xs, rfl, rfl, hT, hne, h1, h2, hz, q1, q2⟩ := h
  by_cases k2 : 2 ≤ k
  · exact op_repT pins s σ H _ _ v u Q I rx ry ⟨l, k, xs, rfl, rfl, hT, hne, k2, h2, hz, q2 (by omega)⟩
  cases rx
  obtain ⟨t, rfl⟩ := ry
  obtain ⟨its, r, ⟨⟨cls, dd, data, sl⟩, ho, hc, n, hd⟩, hs⟩ := I.tuple hT
  simp only at hc hd
  subst hc hd
  have hle : its.length = xs.length := r.length.symm
  have hi : its.toArray.isEmpty = false := by
    cases its with
    | nil => exact absurd (List.eq_nil_of_length_eq_zero hle.symm) hne
    | cons a b => rfl
  have c0 : (decide (k < -(2 ^ 63)) || decide (k ≥ 2 ^ 63)) = false := by
    rw [decide_eq_false (by omega), decide_eq_false (by omega)] <;> rfl
  rcases (show k = 1 ∨ k = 0 by omega) with rfl | rfl
  · have c1 : (its.toArray.isEmpty || (1 : Int) == 1) = true := by
      rw [hi]
      rfl
    exact wpAny_binaryOp_repeat_ref (T := "tuple") (U := "int") (by decide) ⟨_, ho, rfl⟩ (fun s' => typeIs_int s' 1 t) noFill_tuple_mul F.fills_int_mul F.slot_int_rmul repeat_tuple F.slot_int_index.lookup
      (call_meets F.slot_int_rmul (typeIs_int s 1 t) F.entry_int_rmul (F.args_int_rmul_2 _ _) (int_rmul_tuple 1 t l its.toArray n dd sl)
        ⟨ho, rfl, ⟨_, ho, rfl⟩, call_meets F.slot_tuple_mul ⟨_, ho, rfl⟩ F.entry_tuple_mul (F.args_tuple_mul_2 _ _) (tmul_self l its.toArray n dd sl 1 t c0 c1) ⟨ho, .ref l, H, I, rfl, q1 rfl⟩⟩)
  · have c1 : (its.toArray.isEmpty || (0 : Int) == 1) = false := by
      rw [hi]
      rfl
    have c2 : (decide ((0 : Int) ≤ 0) || its.toArray.isEmpty) = true := rfl
    refine wpAny_binaryOp_repeat_ref (T := "tuple") (U := "int") (by decide) ⟨_, ho, rfl⟩ (fun s' => typeIs_int s' 0 t) noFill_tuple_mul F.fills_int_mul F.slot_int_rmul repeat_tuple F.slot_int_index.lookup
      (call_meets F.slot_int_rmul (typeIs_int s 0 t) F.entry_int_rmul (F.args_int_rmul_2 _ _) (int_rmul_tuple 0 t l its.toArray n dd sl)
        ⟨ho, rfl, ⟨_, ho, rfl⟩, call_meets F.slot_tuple_mul ⟨_, ho, rfl⟩ F.entry_tuple_mul (F.args_tuple_mul_2 _ _) (tmul_none l its.toArray n dd sl 0 t c0 c1 c2) ⟨ho, ?_⟩⟩)
    refine ⟨.ref s.heap.objs.size, _, I.laid (t' := s.toks) (o := .tup (List.replicate (0 : Int).toNat xs).flatten) (fun b ob q => Heap.get?_push_of_some _ q) (Nat.le_refl _) ?_, rfl, q2 (by decide) _ (I.hok.fresh (Nat.le_refl _))⟩
    exact ⟨Nat.zero_le _, [], .nil, IsTup.new _ _⟩
end
end L2
-- part TMinI
set_option maxHeartbeats 4000000
/-! min of a dict with number keys. -/
namespace L2
open PySem PySem.Spec PyProof.Rows
/-- min(d): one of its keys (which one: not told) -/
def rMinDI : List V → Hp → VK → Prop := fun xs H Q => ∃ (a : Addr) (kvs : List (Key × V)) (ss : List Int), xs = [.ref a] ∧ H a = some (.dK kvs) ∧ kvs.map (·.1) = ss.map Sum.inl ∧ ss ≠ [] ∧ ∀ m, m ∈ ss → Q (.int m) H
theorem call_minDI {X : Cx} (hc : X.calm = true) : CallR X (.builtin "min") rMinDI := by
  rintro pins s σ H xs us Q I r ⟨a, kvs, ss, rfl, ha, hk, hne, q⟩
  obtain ⟨u, rfl, rx⟩ := vals1 r
  cases rx
  obtain ⟨_, hsys, vs, rel, dof⟩ := dk_of I.hok ha
  obtain ⟨ep, dat⟩ := dof.dictAt
  have hl : vs.length = ss.length := by
    have e := congrArg List.length hk
    rw [List.length_map, List.length_map] at e
    rw [← e]
    exact (KV.length rel).symm
  have pos : 0 < vs.length := by
    rw [hl]
    exact List.length_pos_iff.mpr hne
  have key : ∀ (i : Nat) (v : Value), (∃ k x, vs[i]? = some (k, x) ∧ (mixKind X.prog X.w).is k v = true) → ∃ m t, ss[i]? = some m ∧ v = .int m t := by
    rintro i v ⟨k, x, hi, hv⟩
    obtain ⟨y, h1, h2⟩ := KV.at' rel hi
    have e1 : (kvs.map (·.1))[i]? = some k := by rw [List.getElem?_map, h1] <;> rfl
    rw [hk, List.getElem?_map] at e1
    obtain ⟨m, hm, e2⟩ := Option.map_eq_some_iff.mp e1
    subst e2
    have hv : keyIs (Sum.inl m) v = true := hv
    rcases keyIs_shape hv with ⟨m2, t, z, hvt⟩ | ⟨_, _, z, _⟩
    · cases z
      exact ⟨m, t, hm, hvt⟩
    · cases z
  have low : ∃ o, s.heap.get? a = some o := by
    obtain ⟨o, _, ho, _⟩ := dat
    exact ⟨o, ho⟩
  obtain ⟨o, ho⟩ := low
  have hlt : a < s.heap.objs.size := Heap.lt_size ho
  refine call_min_walk (wpAny_pyIter_dict (knd := mixKind X.prog X.w) hsys dat ?_)
  refine ⟨_, _, _, _, _, _, fun i j => decide ((ss[i]?).getD 0 < (ss[j]?).getD 0), rfl, Walks.dictKeys (knd := mixKind X.prog X.w) (A := X.A.in1) (I.ok.hd hc) s.heap.objs.size a (Nat.ne_of_lt hlt) vs ep,
    ⟨⟨_, Heap.get?_push_size _ rfl, rfl, rfl⟩, dat.keep fun b u e => Heap.get?_push_of_some _ e⟩, fun b hb => ?_, pos, ?_, fun v h' tk hP hkp => ?_⟩
  · show b < (s.heap.push _).objs.size
    rw [Heap.size_push]
    rcases List.mem_cons.mp hb with z | z
    · rw [z]; exact Nat.lt_succ_self _
    · rw [List.mem_singleton.mp z]; exact Nat.lt_succ_of_lt hlt
  · intro i j vi vj s2 Q2 E2 hi hj h
    obtain ⟨x, t, hx, rfl⟩ := key i vi hi
    obtain ⟨y, u, hy, rfl⟩ := key j vj hj
    have z : Q2 (.bool (decide ((ss[i]?).getD 0 < (ss[j]?).getD 0))) s2 := h
    rw [hx, hy] at z
    exact lt_int z
  · obtain ⟨m, t, hm, rfl⟩ := key _ _ hP
    refine ⟨.int m, H, I.kept (t' := tk) fun b u e => hkp b u ?_ (Heap.get?_push_of_some _ e), ⟨t, rfl⟩, q m (List.mem_of_getElem? hm)⟩
    intro hb
    have z := List.mem_singleton.mp hb
    rw [z] at e
    exact Nat.lt_irrefl _ (Heap.lt_size e)
end L2
-- part Ru
set_option maxHeartbeats 4000000
/-! Rules: zip of two tuples as a walk; tuples as data compared by < ; sorted of a list of tuples as data, and of a dict whose keys are tuples. -/
namespace L2
open PySem PySem.Spec PyProof.Rows PySem.W
section
variable {P : Program} {w : World} {K : PySem.W.Frag} {mg : Str → Option Value} {base : Heap} {CX : CXT} {k : Nat} {f : Addr} {fd : FuncData} {ps : List Str} {sp1 sp2 : Sp}
def spOr (a b : Sp) : Sp := fun vs H Q E => a vs H Q E ∨ b vs H Q E
theorem fn_or (F1 : FnOk P w K mg base CX k f fd ps sp1) (F2 : FnOk P w K mg base CX k f fd ps sp2) : FnOk P w K mg base CX k f fd ps (spOr sp1 sp2) := by
  refine ⟨fun vs H Q E h => ?_, fun A outer s H args us vs Q E hr e0 hb hv h => ?_⟩
  · rcases h with h | h
    · exact F1.len vs H Q E h
    · exact F2.len vs H Q E h
  · rcases h with h | h
    · exact F1.run A outer s H args us vs Q E hr e0 hb hv h
    · exact F2.run A outer s H args us vs Q E hr e0 hb hv h
end
section
variable {K : PySem.W.Frag} {a b : Addr} {xs ys : List V}
theorem walk_zipT {n : Nat} (hn : n = min xs.length ys.length) : Walk (RZ.ItzT K a b) n (fun H => SqT K H a xs ∧ SqT K H b ys) (YPair (fun i => xs[i]?) (fun i => ys[i]?)) := by
  subst hn
  constructor
  · intro i H hi q
    have l1 : i < xs.length := by omega
    have l2 : i < ys.length := by omega
    exact ⟨xs, ys, xs[i], ys[i], q.1, q.2, List.getElem?_eq_getElem l1, List.getElem?_eq_getElem l2⟩
  · intro H q
    exact ⟨xs, ys, q.1, q.2, by omega⟩
  · intro i H v H' _ q y
    obtain ⟨T, x, z, e1, e2, e3, e4, e5⟩ := y
    exact ⟨T, x, z, e1, e2, e3, e4 xs q.1, e5 ys q.2⟩
end
/-- x < y, both data of one make -/
def rLtDp (K : PySem.W.Frag) : R2 := fun x y H Q => ∃ d e, Dp K H x d ∧ Dp K H y e ∧ alike d e = true ∧ d ≠ .none ∧ d.depth ≤ 8 ∧ Q (.bl (dataLt d e)) H
theorem op_ltDp {X : Cx} (hu : X.A.units + 64 < cLine) : OpR X (compareOp .Lt) (rLtDp X.K) := by
  intro pins s σ H x y v u Q I rx ry h
  obtain ⟨d, e, hd, he, al, nn, dp, q⟩ := h
  obtain ⟨as, r1⟩ := Dp.reads I d x v hd rx
  obtain ⟨bs, r2⟩ := Dp.reads I e y u he ry
  have z : wpAny (model X.prog X.w) X.A (compareOp .Lt v u) (EP X pins σ Q) X.xe s :=
    rcLt_alike d e X.A s v u as bs r1 r2 al nn (Nat.lt_of_le_of_lt (Nat.add_le_add_left (Nat.le_trans (Nat.min_le_left _ _) (Nat.le_trans dp (by decide))) _) hu) X.prog X.w X.xe _ ⟨.bl _, H, I, rfl, q⟩
  exact z
/-- values and what they stand for, in one order -/
theorem each_vals {D : Type} : ∀ {bs : List (V × D)} {us : List Value}, Vals (bs.map (·.1)) us → EachIs (fun u b => RelV b.1 u) us bs
  | [], us, r => by
    cases r
    exact .nil
  | b :: bs, us, r => by
    cases r with
    | cons h t => exact .cons h (each_vals t)
theorem vals_each {D : Type} : ∀ {bs : List (V × D)} {us : List Value}, EachIs (fun u b => RelV b.1 u) us bs → Vals (bs.map (·.1)) us
  | _, _, .nil => .nil
  | _, _, .cons h t => .cons h (vals_each t)
theorem each_reads {X : Cx} {pins : List (Addr × Obj)} {σ : St} {H : Hp} {s : Shared} (I : Inv X pins σ H s) : ∀ {bs : List (V × PyData)} {us : List Value}, Vals (bs.map (·.1)) us → DpAll X.K H (bs.map (·.1)) (bs.map (·.2)) → EachIs (fun u b => ∃ as, Reads s.heap u (Prod.snd b) as) us bs
  | [], us, r, _ => by
    cases r
    exact .nil
  | b :: bs, us, r, h => by
    cases r with
    | cons r1 r2 =>
      cases h with
      | cons h1 h2 => exact .cons (Dp.reads I _ _ _ h1 r1) (each_reads I r2 h2)
/-- sorted of a list whose items are data of one make -/
def rSortDp (K : PySem.W.Frag) : List V → Hp → VK → Prop := fun vs H Q => ∃ (a : Addr) (bs : List (V × PyData)), vs = [.ref a] ∧ SqL K H a (bs.map (·.1)) ∧ DpAll K H (bs.map (·.1)) (bs.map (·.2)) ∧ AllAlike (bs.map (·.2)) ∧ Sortable (bs.map (·.2)) ∧
  (∀ b ∈ bs, b.2.depth ≤ 8) ∧ ∀ p, H p = none → Q (.ref p) (upd H p (.lst ((bs.mergeSort (dataLe false (·.2))).map (·.1))))
theorem cr_sortDp {X : Cx} (hu : X.A.units + 64 < cLine) : CallR X (.builtin "sorted") (rSortDp X.K) := by
  intro pins s σ H vs us Q I r h
  obtain ⟨a, bs, rfl, hs, hd, al, so, dp, q⟩ := h
  rw [Vals.ref1 r]
  obtain ⟨its, rv, hl, hz⟩ := I.list hs
  have len : its.length = bs.length := by rw [← rv.length, List.length_map]
  have hz2 : bs.length ≤ sizeLine := by rw [List.length_map] at hz; exact hz
  refine PySem.W.sorted_data (R := fun u b => RelV b.1 u) (enc := (·.2)) hl.isList (each_vals rv) (each_reads I rv hd) al so hz2 (fun b hb => ?_) fun out e1 e2 => ?_
  · have := dp b hb
    omega
  · have r2 := vals_each e2
    refine ⟨.ref _, _, I.laid (t' := s.toks) (o := .lst ((bs.mergeSort (dataLe false (·.2))).map (·.1))) (fun b o e => sortedAll_old e) (Nat.le_succ _) ?_, rfl, q _ (I.hok.fresh (Nat.le_succ _))⟩
    obtain ⟨n, hn⟩ := sortedAll_at s.heap its out.toArray
    exact ⟨by rw [List.length_map, List.length_mergeSort]; exact hz2, out, n, r2, hn⟩
theorem each_back {α β γ : Type} {R : α → γ → Prop} {f : β → γ} : ∀ {us : List α} {bs : List β}, EachIs R us (bs.map f) → EachIs (fun u b => R u (f b)) us bs
  | _, [], h => by
    cases h
    exact .nil
  | _, b :: bs, h => by
    cases h with
    | cons h t => exact .cons h (each_back t)
theorem each_forth {α β γ : Type} {R : α → γ → Prop} {f : β → γ} : ∀ {us : List α} {bs : List β}, EachIs (fun u b => R u (f b)) us bs → EachIs R us (bs.map f)
  | _, _, .nil => .nil
  | _, _, .cons h t => .cons h (each_forth t)
/-! ### a dict whose keys are tuples -/
def keyD : Key → PyData
  | .inl i => .int i
  | .inr x => .str x
abbrev keyT (k : List Key) : PyData := .tuple (k.map keyD)
theorem dp_key {K : PySem.W.Frag} {H : Hp} : ∀ k : Key, Dp K H (kV k) (keyD k)
  | .inl i => .int i
  | .inr x => .str x
theorem dp_keys {K : PySem.W.Frag} {H : Hp} : ∀ ks : List Key, DpAll K H (ks.map kV) (ks.map keyD)
  | [] => .nil
  | k :: ks => .cons (dp_key k) (dp_keys ks)
theorem depth_keys : ∀ ks : List Key, PyData.depthAll (ks.map keyD) = 0
  | [] => rfl
  | k :: ks => by
    have e : PyData.depthAll ((k :: ks).map keyD) = max (keyD k).depth (PyData.depthAll (ks.map keyD)) := rfl
    rw [e, depth_keys ks]
    cases k <;> rfl
theorem paired_zip {H : Hp} : ∀ {kvs : List (List Key × V)} {as : List Addr}, IsKeys H kvs as → ((kvs.map (·.1)).zip as).map (·.1) = kvs.map (·.1) ∧ ((kvs.map (·.1)).zip as).map (·.2) = as ∧ ∀ b ∈ (kvs.map (·.1)).zip as, H b.2 = some (.tup (b.1.map kV))
  | _, _, .nil => ⟨rfl, rfl, fun b hb => by cases hb⟩
  | _, _, .cons h t => by
    obtain ⟨e1, e2, e3⟩ := paired_zip t
    refine ⟨congrArg (_ :: ·) e1, congrArg (_ :: ·) e2, fun b hb => ?_⟩
    rcases List.mem_cons.mp hb with e | e
    · rw [e]; exact h
    · exact e3 b e
/-- sorted of such a dict: its keys' own tuples, in a new list -/
def rSortDT : List V → Hp → VK → Prop := fun vs H Q => ∃ (d : Addr) (kvs : List (List Key × V)), vs = [.ref d] ∧ Rd H d (.dT kvs) ∧ AllAlike (kvs.map fun p => keyT p.1) ∧ (∀ p ∈ kvs, p.1 ≠ []) ∧
  ∀ (bs : List (List Key × Addr)) (p : Addr), bs.map (·.1) = kvs.map (·.1) → (∀ b ∈ bs, H b.2 = some (.tup (b.1.map kV))) → H p = none → Q (.ref p) (upd H p (.lst ((bs.mergeSort (dataLe false fun b => keyT b.1)).map fun b => .ref b.2)))
theorem cr_sortDT {X : Cx} (hc : X.calm = true) (hu : X.A.units + 64 < cLine) : CallR X (.builtin "sorted") rSortDT := by
  intro pins s σ H vs us Q I r h
  obtain ⟨d, kvs, rfl, hd, al, ne, q⟩ := h
  rw [Vals.ref1 r]
  obtain ⟨z, hs, ks, pr, o, es, ep, ho, hx, hdt, he, hn⟩ := (show ObjOk X.prog X.w H s.heap d (.dT kvs) from hd.ok I.hok)
  have l1 : es.size = ks.length := size_of_entries he
  have l2 : kvs.length = ks.length := Paired.length pr
  have hk0 : IsKeys H kvs (ks.map fun x => x.2.1) := isKeys_of pr
  obtain ⟨z1, z2, z3⟩ := paired_zip hk0
  generalize hbs : (kvs.map (·.1)).zip (ks.map fun x => x.2.1) = bs at z1 z2 z3
  have lb : bs.length = ks.length := by
    have := congrArg List.length z2
    rw [List.length_map, List.length_map] at this
    exact this
  refine Calls.call_function_entry kind_sorted plain_sorted entry_sorted (args_sorted1 _) ?_
  unfold Builtin.«sorted»
  refine wpAny_bind (m := checkCount "sorted" 1 1 _) (wpAny_pure ?_)
  refine wpAny_bind (kdu_collect (A := X.A.in1) (kdl_raw hs hx hdt) (I.ok.hd hc) ho (by omega) fun h' tk acc kp it => ?_)
  have ea : acc.toList = (bs.map (·.2)).map Value.ref := by
    rw [z2]
    have hl : acc.toList.length = ks.length := by rw [Array.length_toList, it.1]; exact l1
    apply List.ext_getElem?
    intro j
    rw [List.map_map, List.getElem?_map]
    cases hj : acc.toList[j]? with
    | none =>
      have y := List.getElem?_eq_none_iff.mp hj
      rw [List.getElem?_eq_none (by omega)]
      rfl
    | some v =>
      obtain ⟨en, hen, hv⟩ := it.2 j v (by rw [← Array.getElem?_toList]; exact hj)
      have qe := entry_at he j
      rw [hen] at qe
      cases hb : ks[j]? with
      | none =>
        rw [hb] at qe
        cases qe
      | some k =>
        rw [hb] at qe
        have e2 := Option.some.inj qe
        rw [hv, e2]
        rfl
  have I1 : Inv X pins σ H { s with heap := h', toks := tk } := I.kept kp
  have rv : Vals ((bs.map fun b => (V.ref b.2, b.1)).map (·.1)) acc.toList := by
    rw [ea, List.map_map]
    have e : bs.map (Prod.fst ∘ fun b : List Key × Addr => (V.ref b.2, b.1)) = (bs.map (·.2)).map V.ref := by rw [List.map_map]; rfl
    rw [e]
    exact vals_refs _
  have hal : acc.toList.length ≤ sizeLine := by rw [ea, List.length_map, List.length_map]; omega
  refine wpAny_bind (wpAny_newList ?_ hal)
  have hoL : (h'.push (seqObj "list" acc.toList.toArray 0)).get? h'.objs.size = some (seqObj "list" acc.toList.toArray 0) := Heap.get?_push_size _ rfl
  show wpAny _ _ _ _ _ { s with heap := h'.push (seqObj "list" acc.toList.toArray 0), toks := tk }
  apply wpAny_bind
  apply wpAny_holding
  have old : ∀ b o, h'.get? b = some o → b ≠ h'.objs.size := fun b o e => Nat.ne_of_lt (Heap.lt_size e)
  have kp2 : ∀ b o, h'.get? b = some o → (sortingHeap (h'.push (seqObj "list" acc.toList.toArray 0)) h'.objs.size acc.toList).get? b = some o := fun b o e => sortingHeap_old (old b o e) (Heap.get?_push_of_some _ e)
  have dpA : ∀ l : List (List Key × Addr), (∀ b ∈ l, H b.2 = some (.tup (b.1.map kV))) → DpAll X.K H ((l.map fun b => (V.ref b.2, keyT b.1)).map (·.1)) ((l.map fun b => (V.ref b.2, keyT b.1)).map (·.2)) := fun l => by
    induction l with
    | nil => exact fun _ => .nil
    | cons b l ih => exact fun hl => .cons (.tup (.inl (.inl (hl b (List.mem_cons_self ..)))) (dp_keys _)) (ih fun c hc => hl c (List.mem_cons_of_mem _ hc))
  have rv2 : Vals ((bs.map fun b => (V.ref b.2, keyT b.1)).map (·.1)) acc.toList := by
    rw [List.map_map] at rv ⊢
    exact rv
  have rd0 := each_reads I1 rv2 (dpA bs z3)
  have rd1 : EachIs (fun u (b : List Key × Addr) => ∃ as, Reads (sortingHeap (h'.push (seqObj "list" acc.toList.toArray 0)) h'.objs.size acc.toList) u (keyT b.1) as) acc.toList bs :=
    (each_back (R := fun u (b : V × PyData) => ∃ as, Reads h' u b.2 as) (f := fun b : List Key × Addr => (V.ref b.2, keyT b.1)) rd0).mono fun u b ⟨as, r⟩ => ⟨as, PyProof.Rows.Reads.keeps kp2 r⟩
  have ev : EachIs (fun u (b : List Key × Addr) => RelV (V.ref b.2) u) acc.toList bs := each_back (f := fun b : List Key × Addr => (V.ref b.2, keyT b.1)) (each_vals rv2)
  have em : bs.map (fun b => keyT b.1) = kvs.map fun p => keyT p.1 := by
    have e1 : bs.map (fun b => keyT b.1) = (bs.map (·.1)).map fun k => keyT k := by rw [List.map_map]; rfl
    rw [e1, z1, List.map_map]
    rfl
  have al2 : AllAlike (bs.map fun b => keyT b.1) := by rw [em]; exact al
  have so2 : Sortable (bs.map fun b => keyT b.1) := .inl fun d hd => by
    rw [em] at hd
    obtain ⟨p, hp, e⟩ := List.mem_map.mp hd
    cases hq : p.1 with
    | nil => exact absurd hq (ne p hp)
    | cons k ks =>
      rw [← e, hq]
      exact ⟨_, _, rfl⟩
  refine wpAny_call_entry slot_list_sort ⟨_, hoL, rfl⟩ entry_list_sort (list_sort_vals (κ := dataKind (sortingHeap (h'.push (seqObj "list" acc.toList.toArray 0)) h'.objs.size acc.toList) (bs.map fun b => keyT b.1)) hoL
    (SortsAt.data (s := { s with heap := sortingHeap (h'.push (seqObj "list" acc.toList.toArray 0)) h'.objs.size acc.toList, toks := tk }) (each_map (R := fun v d => ∃ as, Reads (sortingHeap (h'.push (seqObj "list" acc.toList.toArray 0)) h'.objs.size acc.toList) v d as) (fun b : List Key × Addr => keyT b.1) rd1) al2 so2 (bound_map fun b _ => ?_)) hal ⟨.none, rfl, ?_⟩) (args_list_sort _)
  · have e : (keyT b.1).depth = 1 := by
      show PyData.depthAll (b.1.map keyD) + 1 = 1
      rw [depth_keys]
    rw [e]
    show X.A.in1.in1.units + 1 < cLine
    have y : X.A.in1.in1.units = X.A.units + 2 := rfl
    omega
  · have out := sortVals_data (R := fun u (b : List Key × Addr) => RelV (V.ref b.2) u) (enc := fun b => keyT b.1) false ev rd1 al2
    have r2 : Vals ((bs.mergeSort (dataLe false fun b => keyT b.1)).map fun b => V.ref b.2) (sortVals (dataKind (sortingHeap (h'.push (seqObj "list" acc.toList.toArray 0)) h'.objs.size acc.toList) (bs.map fun b => keyT b.1)) false acc.toList acc.toList) := by
      have y := vals_each (bs := (bs.mergeSort (dataLe false fun b => keyT b.1)).map fun b => (V.ref b.2, b.1)) (each_forth (f := fun b : List Key × Addr => (V.ref b.2, b.1)) out)
      rw [List.map_map] at y
      exact y
    obtain ⟨n, hn2⟩ := sortedHeap_at (vs := acc.toList) (out := (sortVals (dataKind (sortingHeap (h'.push (seqObj "list" acc.toList.toArray 0)) h'.objs.size acc.toList) (bs.map fun b => keyT b.1)) false acc.toList acc.toList).toArray) hoL
    refine wpAny_pure ⟨_, rfl, .ref h'.objs.size, upd H h'.objs.size (.lst ((bs.mergeSort (dataLe false fun b => keyT b.1)).map fun b => .ref b.2)), I1.laid (t' := tk) (fun b o e => ?_) (Nat.le_refl _) ⟨?_, _, n, r2, hn2⟩, rfl, q bs _ z1 z3 (I1.hok.fresh (Nat.le_refl _))⟩
    · rw [sortedHeap_old (old b o e) (by rw [size_push']; exact Nat.lt_succ_of_lt (Heap.lt_size e))]
      exact Heap.get?_push_of_some _ e
    · rw [List.length_map, List.length_mergeSort]
      omega
/-! ### a dict comprehension that is given to a name -/
section
variable {X : Cx}
theorem ps_setDc {i : Nat} {y : Str} {py : Pos} {kx vx tg iter : Expr} {ifs : List Expr} {scope : Scope} {own : List (Str × Nat)} {pos spos : Pos} {wi : TI} {g : TG} {tt : TT} {tk tv : TE} (hc : X.calm = true) (hN : X.N.Nodup) (hy : X.N[i]? = some y) (hyl : X.env.scope.names.lookup y = some .local)
    (hsw : swapsWith (.DictComp kx vx [⟨tg, iter, ifs, 0⟩] scope pos) (some (.Name y py)) spos.line X.env = pure true) (hi : PI X tg iter wi) (ok : BlkOk X.N X.env.scope scope own)
    (hg : ∀ (s : Shared) (H : Hp) (C : Addr) (cl : List (Str × Addr)) (fp : List Addr), PG (X.blk s H scope (compEnvC scope cl C X.env) fp) tg g) (ht : ∀ (s : Shared) (H : Hp) (C : Addr) (cl : List (Str × Addr)) (fp : List Addr), PTs (X.blk s H scope (compEnvC scope cl C X.env) fp) ifs tt)
    (hk : ∀ (s : Shared) (H : Hp) (C : Addr) (cl : List (Str × Addr)) (fp : List Addr), PE (X.blk s H scope (compEnvC scope cl C X.env) fp) kx tk)
    (he : ∀ (s : Shared) (H : Hp) (C : Addr) (cl : List (Str × Addr)) (fp : List Addr), PE (X.blk s H scope (compEnvC scope cl C X.env) fp) vx tv) (hs : ∀ x, foldedSetIterable iter X.env x = pure x := by intro _; rfl) :
    PS X (.Assign [.Name y py] (.DictComp kx vx [⟨tg, iter, ifs, 0⟩] scope pos) spos) (tAsg (tDc wi g tt tk tv (own.map (·.2))) (gName i)) := by
  refine ⟨fun pins s σ H D I h => ?_⟩
  rw [exec_Assign_Name_used _ _ _ _ hsw]
  refine wpAny_bind (wpAny_standAt (wpAny_bind ?_))
  show wpAny _ X.A (do let _ ← comprehension (.DictComp kx vx [⟨tg, iter, ifs, 0⟩] scope pos) scope X.env (firstIterPos [⟨tg, iter, ifs, 0⟩] pos) newDict false (eval iter X.env) (some (assign (.Name y py) X.env))) _ _ s
  have h2 : tDc wi g tt tk tv (own.map (·.2)) σ H (fun x H1 => gName i x σ H1 D.nx) := h
  refine wpAny_bind (thn (dc_core (Qf := fun _ s' => SP X pins D .next s') hc hN I hi ok hg ht hk he hs h2 fun L C s' m H' I' q hn f => ?_) fun _ s' hq => wpAny_pure (wpAny_pure hq))
  show wpAny _ _ (assign (.Name y py) X.env (.ref L)) _ _ _
  obtain ⟨f0, f1, f2, f3, f4, f5⟩ := f
  refine wpAny_assign_Name (store_ok2 (v := V.ref L) I' hN hy (.inl hyl) rfl (fun s2 I2 ⟨a, sb, ha⟩ => ?_) (.inr hyl))
  have ne : C ≠ a := fun e => by
    rcases ha with z | z
    · exact f1 (e.trans z)
    · exact f4 y a z e.symm
  exact ⟨m, hn.sameBut sb ne, fun h3 sb3 => ⟨_, H', I2.turned (t' := s2.toks) (fun b o hb e => (sb3.2 b hb).trans e) f0 f1 f3 f4 f5, q⟩⟩
theorem sw_trueD {kx vx : Expr} {gs : List Comprehension} {scope : Scope} {pos py : Pos} {y : Str} {l : Nat} {env : Env} (hk : env.scope.kind = .function) (hy : env.scope.names.lookup y = some .local) (hl : (py.line == pos.line) = true)
    (ha : (scope.names.any fun (n, k) => n == y && (k == .local || k == .cell)) = false) : swapsWith (.DictComp kx vx gs scope pos) (some (.Name y py)) l env = pure true := by
  have k1 : env.kindOf y = some .local := hy
  have k2 : env.blockKind = .function := by
    unfold Env.blockKind
    rw [hk]
    rfl
  unfold swapsWith
  simp only [k2, k1, ha, Expr.pos, hl]
  rfl
end
end L2
-- part TArith
set_option maxHeartbeats 4000000
/-! raised, plus_times. -/
namespace Kn
open PySem PySem.Spec PyProof.Rows L2
abbrev sRaised : Stmt := topS 24
abbrev sPlus : Stmt := topS 25
abbrev NRa : List Str := ["number", "power", "out", "_"]
abbrev NPl : List Str := ["row", "number", "other", "have", "more"]
theorem scRa : FnScope NRa ["number", "power"] (defScope sRaised) := ⟨rfl, rfl, rfl, by decide +kernel, rfl, by decide +kernel, by decide +kernel⟩
theorem scPl : FnScope NPl ["row", "number", "other"] (defScope sPlus) := ⟨rfl, rfl, rfl, by decide +kernel, rfl, by decide +kernel, by decide +kernel⟩
/-- numbers in a tuple -/
def Row (H : Hp) (v : V) (ns : List Int) : Prop := ∃ a, v = .ref a ∧ Rd H a (.tup (ns.map V.int)) ∧ ns.length ≤ 45
theorem Row.same {H H' : Hp} {v : V} {ns : List Int} (h : Row H v ns) (s : Same H H') : Row H' v ns := by
  obtain ⟨a, e, r, n⟩ := h
  exact ⟨a, e, Rd.same r s, n⟩
/-- row + number * other -/
def plusL (rs : List Int) (n : Int) (os : List Int) : List Int := (rs.zip os).map fun p => p.1 + n * p.2
theorem plusL_len {rs os : List Int} {n : Int} (h : rs.length = os.length) : (plusL rs n os).length = rs.length := by
  unfold plusL
  rw [List.length_map, List.length_zip, ← h, Nat.min_self]
def rTupA (K : PySem.W.Frag) : List V → Hp → VK → Prop := fun xs H Q => ∃ p ys, xs = [.ref p] ∧ ((SqL K H p ys ∧ ∀ l, H l = none → Q (.ref l) (upd H l (.tup ys))) ∨ (SqT K H p ys ∧ Q (.ref p) H))
def spRaised : Sp := fun vs H Q _ => ∃ (n : Int) (p : Nat), vs = [.int n, .int p] ∧ -(2 ^ 64) < n ∧ n < 2 ^ 64 ∧ p ≤ 100 ∧ Q (.int (n ^ p)) H
def spPlus : Sp := fun vs H Q _ => ∃ r o rs os n, vs = [r, .int n, o] ∧ Row H r rs ∧ Row H o os ∧ rs.length = os.length ∧ -(2 ^ 64) < n ∧ n < 2 ^ 64 ∧ ∀ v H', Same H H' → Row H' v (plusL rs n os) → Q v H'
section
variable {P : Program} {w : World} {K : PySem.W.Frag} {mg : Str → Option Value} {base : Heap}
theorem ok_raised {f : Addr} {fd : FuncData} (F : Fun K "raised" "raised" sRaised f fd) (mr : mg "range" = none) : FnOk P w K mg base CX0 1 f fd ["number", "power"] spRaised := by
  have S := scRa
  refine F.ok S (fun vs H Q E h => ?_) (fun cdv A outer s H vs Q E hr h => ?_)
  · obtain ⟨n, p, rfl, _⟩ := h
    rfl
  · obtain ⟨n, p, rfl, n1, n2, hp, q⟩ := h
    refine ⟨_, (pss_cons (ps_set (i := 2) S.nd rfl (.inl rfl) pe_int)
      (pss_cons (ps_for PassesOwn.never rfl (pi_range1 (by rfl) mr (pa_cons (pv 1) pa_nil)) (pg_name (i := 3) S.nd rfl (.inl rfl))
        (pss_one (ps_set (i := 2) S.nd rfl (.inl rfl) (pe_op op_mul (pv 2) (pv 0)))))
      (pss_one (ps_ret (pv 2))))), ?_⟩
    refine ⟨_, rfl, p, rfl, by omega, by omega, for_range (fun i σ H1 => ∃ y, σ = [some (.int n), some (.int p), some (.int (n ^ i)), y] ∧ H1 = H) ⟨none, by rw [Int.pow_zero]; rfl, rfl⟩ ?_ ?_⟩
    · rintro i σ H1 hi ⟨y, rfl, rfl⟩
      exact ⟨_, rfl, _, rfl, _, _, rfl, rfl, .inr ⟨n1, n2⟩, _, by rw [Int.pow_succ]; rfl, rfl⟩
    · rintro σ H1 ⟨y, rfl, rfl⟩
      rw [Int.toNat_natCast]
      exact ⟨_, rfl, q⟩
theorem ok_plus {f : Addr} {fd : FuncData} (F : Fun K "plus_times" "plus_times" sPlus f fd) (mz : mg "zip" = none) (mt : mg "tuple" = none) : FnOk P w K mg base CX0 1 f fd ["row", "number", "other"] spPlus := by
  have S := scPl
  refine F.ok S (fun vs H Q E h => ?_) (fun cdv A outer s H vs Q E hr h => ?_)
  · obtain ⟨r, o, rs, os, n, rfl, _⟩ := h
    rfl
  · obtain ⟨r, o, rs, os, n, rfl, hr1, ho, le, n1, n2, q⟩ := h
    obtain ⟨ra, rfl, hra, lr⟩ := hr1
    obtain ⟨oa, rfl, hoa, lo⟩ := ho
    refine ⟨_, (pss_one (ps_ret (pe_callTy (show CallR _ (.type "tuple") (rTupA K) from call_tuple_of) (by rfl) mt (by decide +kernel) (pa_cons (pe_lc (own := [("have", 3), ("more", 4)]) (g := gTup K 2 (gCons (gName 3) (gCons (gName 4) gNil))) rfl S.nd (RZ.pi_zipA (by rfl) mz (pa_cons (pv 0) (pa_cons (pv 2) pa_nil)))
        (blkOk_by (N := NPl) (sc := defScope sPlus) (by decide +kernel)) (fun _ _ _ _ _ => pg_tup rfl (pgs_cons (pg_name (i := 3) S.nd rfl (.inl rfl)) (pgs_cons (pg_name (i := 4) S.nd rfl (.inl rfl)) pgs_nil))) (fun _ _ _ _ _ => pts_nil)
        (fun _ _ _ _ _ => pe_op op_add (pv 3) (pe_op op_mul (pv 1) (pv 4)))) pa_nil)))), ?_⟩
    refine ⟨_, rfl, _, rfl, ra, oa, _, _, rfl, .inr ⟨.inl hra, .inl hoa, fun D nD => lc_it (D := D) (walk_zipT (K := K) (a := ra) (b := oa) (n := rs.length) (by rw [List.length_map, List.length_map, ← le, Nat.min_self])) (PV H D ((plusL rs n os).map V.int)) (PV.zero nD) (fun _ _ _ p => ⟨.inl (Rd.same hra p.1), .inl (Rd.same hoa p.1)⟩) ?_ ?_⟩⟩
    · rintro i x H3 H4 hi pb ⟨T, y1, y2, rfl, nT, rfl, ey1, ey2⟩
      have ey1 : (rs.map V.int)[i]? = some y1 := ey1
      have ey2 : (os.map V.int)[i]? = some y2 := ey2
      rw [List.getElem?_map] at ey1 ey2
      obtain ⟨b1, hb1, rfl⟩ := Option.map_eq_some_iff.mp ey1
      obtain ⟨b2, hb2, rfl⟩ := Option.map_eq_some_iff.mp ey2
      refine ⟨T, _, rfl, .inl (.inl upd_same), rfl, _, _, rfl, _, _, rfl, rfl, rfl, ?_⟩
      dsimp only [tYes]
      rw [if_pos rfl]
      refine ⟨_, rfl, _, rfl, _, rfl, _, _, rfl, rfl, .inl ⟨n1, n2⟩, _, _, rfl, rfl, ?_⟩
      refine pb.step (same_new nT) nD (by omega) ?_
      unfold plusL
      have ez : (rs.zip os)[i]? = some (b1, b2) := List.getElem?_zip_eq_some.mpr ⟨hb1, hb2⟩
      rw [List.getElem?_map, List.getElem?_map, ez]
      rfl
    · intro H3 pb
      have hl : ((plusL rs n os).map V.int).length = rs.length := by rw [List.length_map, plusL_len le]
      rw [← hl] at pb
      exact ⟨D, _, rfl, .inl ⟨SqL.of pb.all, fun l nl => q _ _ (pb.1.trans (same_new nl)) ⟨l, rfl, .inl upd_same, by rw [plusL_len le]; exact lr⟩⟩⟩
end
end Kn
-- part TAll
set_option maxHeartbeats 4000000
/-! all_checks. -/
namespace Kn
open PySem PySem.Spec PyProof.Rows L2
abbrev sAll : Stmt := topS 26
abbrev NAll : List Str := ["tuples", "count", "width", "checks", "power", "total", "seat"]
theorem scAll : FnScope NAll ["tuples", "count"] (defScope sAll) := ⟨rfl, rfl, rfl, by decide +kernel, rfl, by decide +kernel, by decide +kernel⟩
abbrev Tps : Type := List (Int × List Int)
/-- seats and their rows, in order -/
inductive KvI (H : Hp) : List (Key × V) → Tps → Prop
  | nil : KvI H [] []
  | cons {i : Int} {v : V} {ns : List Int} {ks : List (Key × V)} {l : Tps} (r : Row H v ns) (t : KvI H ks l) : KvI H ((.inl i, v) :: ks) ((i, ns) :: l)
theorem KvI.same {H H' : Hp} (s : Same H H') {ks : List (Key × V)} {l : Tps} (h : KvI H ks l) : KvI H' ks l := by
  induction h with
  | nil => exact .nil
  | cons r _ ih => exact .cons (r.same s) ih
theorem KvI.keys {H : Hp} {ks : List (Key × V)} {l : Tps} (h : KvI H ks l) : ks.map (·.1) = (l.map (·.1)).map Sum.inl := by
  induction h with
  | nil => rfl
  | cons r _ ih => rw [List.map_cons, List.map_cons, List.map_cons, ih]
theorem KvI.len {H : Hp} {ks : List (Key × V)} {l : Tps} (h : KvI H ks l) : ks.length = l.length := by
  induction h with
  | nil => rfl
  | cons r _ ih => rw [List.length_cons, List.length_cons, ih]
theorem KvI.at_ {H : Hp} : ∀ {ks : List (Key × V)} {l : Tps} {i : Nat} {k : Key} {v : V}, KvI H ks l → ks[i]? = some (k, v) → ∃ x ns, l[i]? = some (x, ns) ∧ k = .inl x ∧ Row H v ns
  | _, _, 0, _, _, .cons r _, e => by
    cases e
    exact ⟨_, _, rfl, rfl, r⟩
  | _, _, i + 1, _, _, .cons _ t, e => KvI.at_ (i := i) t (by simpa using e)
theorem KvI.there {H : Hp} : ∀ {ks : List (Key × V)} {l : Tps} {i : Nat} {x : Int} {ns : List Int}, KvI H ks l → l[i]? = some (x, ns) → ∃ v, ks[i]? = some (.inl x, v) ∧ Row H v ns
  | _, _, 0, _, _, .cons r _, e => by
    cases e
    exact ⟨_, rfl, r⟩
  | _, _, i + 1, _, _, .cons _ t, e => KvI.there (i := i) t (by simpa using e)
def TupD (H : Hp) (a : Addr) (l : Tps) : Prop := ∃ ks, H a = some (.dK ks) ∧ KvI H ks l
theorem TupD.same {H H' : Hp} {a : Addr} {l : Tps} (h : TupD H a l) (s : Same H H') : TupD H' a l := by
  obtain ⟨ks, e, r⟩ := h
  exact ⟨ks, s _ _ e, r.same s⟩
structure TOk (l : Tps) (wd : Nat) : Prop where
  n1 : 1 ≤ l.length
  n9 : l.length ≤ 9
  nd : (l.map (·.1)).Nodup
  st : ∀ p ∈ l, 1 ≤ p.1 ∧ p.1 ≤ 9
  ww : ∀ p ∈ l, p.2.length = wd
  w45 : wd ≤ 45
/-- a check: the sum of the rows, each times a power of its seat -/
def checkL (wd : Nat) (k : Nat) (l : Tps) : List Int := l.foldl (fun acc p => plusL acc (p.1 ^ k) p.2) (List.replicate wd 0)
theorem fold_len {wd k : Nat} : ∀ (l : Tps) (acc : List Int), acc.length = wd → (∀ p ∈ l, p.2.length = wd) → (l.foldl (fun acc p => plusL acc (p.1 ^ k) p.2) acc).length = wd
  | [], _, h, _ => h
  | p :: l, acc, h, hl => fold_len l _ (by rw [plusL_len (by rw [h, hl p (List.mem_cons_self ..)]), h]) fun q hq => hl q (List.mem_cons_of_mem _ hq)
theorem checkL_len {wd k : Nat} {l : Tps} (h : ∀ p ∈ l, p.2.length = wd) : (checkL wd k l).length = wd := fold_len l _ (List.length_replicate ..) h
/-- rows one by one -/
def RowsL (H : Hp) (vs : List V) (ls : List (List Int)) : Prop := vs.length = ls.length ∧ ∀ (i : Nat) (v : V), vs[i]? = some v → ∃ ns, ls[i]? = some ns ∧ Row H v ns
theorem RowsL.same {H H' : Hp} {vs : List V} {ls : List (List Int)} (h : RowsL H vs ls) (s : Same H H') : RowsL H' vs ls := ⟨h.1, fun i v e => by
  obtain ⟨ns, e1, r⟩ := h.2 i v e
  exact ⟨ns, e1, r.same s⟩⟩
theorem RowsL.snoc {H : Hp} {vs : List V} {ls : List (List Int)} {v : V} {ns : List Int} (h : RowsL H vs ls) (r : Row H v ns) : RowsL H (vs ++ [v]) (ls ++ [ns]) := by
  refine ⟨by rw [List.length_append, List.length_append, h.1]; rfl, fun i x e => ?_⟩
  rcases Nat.lt_trichotomy i vs.length with z | z | z
  · rw [List.getElem?_append_left z] at e
    obtain ⟨ms, e1, r1⟩ := h.2 i x e
    exact ⟨ms, by rw [List.getElem?_append_left (by rw [← h.1]; exact z)]; exact e1, r1⟩
  · subst z
    rw [List.getElem?_append_right (Nat.le_refl _), Nat.sub_self] at e
    cases e
    exact ⟨ns, by rw [h.1, List.getElem?_append_right (Nat.le_refl _), Nat.sub_self]; rfl, r⟩
  · rw [List.getElem?_eq_none (by rw [List.length_append]; show vs.length + 1 ≤ i; omega)] at e
    cases e
theorem Row.lock {H : Hp} {d : Addr} {od : Obj} {ks : List (Key × V)} {v : V} {ns : List Int} (hd : H d = some (.dK ks)) (h : Row H v ns) : Row (upd H d (.frz od (.dK ks))) v ns := by
  obtain ⟨a, e, r, n⟩ := h
  exact ⟨a, e, Rd.lock hd r, n⟩
theorem Row.unlock {H : Hp} {d : Addr} {od : Obj} {ks : List (Key × V)} {v : V} {ns : List Int} (hd : H d = some (.frz od (.dK ks))) (h : Row H v ns) : Row (upd H d (.dK ks)) v ns := by
  obtain ⟨a, e, r, n⟩ := h
  have ne : a ≠ d := fun z => by
    rcases r with r | ⟨o, r⟩ <;> (rw [z, hd] at r; cases r)
  refine ⟨a, e, ?_, n⟩
  rcases r with r | ⟨o, r⟩
  · exact .inl (by rw [upd_ne ne]; exact r)
  · exact .inr ⟨o, by rw [upd_ne ne]; exact r⟩
theorem valI_nodup {ks : List (Key × V)} (nd : (ks.map (·.1)).Nodup) {k : Key} {v : V} (h : (k, v) ∈ ks) : valV ks k = some v := by
  induction ks with
  | nil => cases h
  | cons p r ih =>
    obtain ⟨k0, v0⟩ := p
    rw [List.map_cons, List.nodup_cons] at nd
    unfold valV
    rw [List.find?_cons]
    rcases List.mem_cons.mp h with e | e
    · cases e
      rw [decide_eq_true rfl]
      rfl
    · have ne : k0 ≠ k := fun z => nd.1 (z ▸ List.mem_map.mpr ⟨_, e, rfl⟩)
      rw [decide_eq_false ne]
      exact ih nd.2 e
theorem KvI.nd {H : Hp} {ks : List (Key × V)} {l : Tps} (h : KvI H ks l) (nd : (l.map (·.1)).Nodup) : (ks.map (·.1)).Nodup := by
  rw [h.keys]
  exact List.pairwise_map.mpr (nd.imp fun h z => h (Sum.inl.inj z))
theorem pow_small {n : Int} {k : Nat} (a : 1 ≤ n) (b : n ≤ 9) (hk : k ≤ 4) : -(2 ^ 64) < n ^ k ∧ n ^ k < 2 ^ 64 := by
  rcases (show n = 1 ∨ n = 2 ∨ n = 3 ∨ n = 4 ∨ n = 5 ∨ n = 6 ∨ n = 7 ∨ n = 8 ∨ n = 9 by omega) with rfl | rfl | rfl | rfl | rfl | rfl | rfl | rfl | rfl <;>
    rcases (show k = 0 ∨ k = 1 ∨ k = 2 ∨ k = 3 ∨ k = 4 by omega) with rfl | rfl | rfl | rfl | rfl <;> decide
def spAll : Sp := fun vs H Q _ => ∃ (a : Addr) (n : Nat) (l : Tps) (wd : Nat), vs = [.ref a, .int n] ∧ TupD H a l ∧ TOk l wd ∧ n ≤ 4 ∧ ∀ p cs H', Same H H' → H p = none → H' p = some (.lst cs) → RowsL H' cs ((List.range n).map fun k => checkL wd k l) → Q (.ref p) H'
theorem zeros {K : PySem.W.Frag} {H1 : Hp} {σ : L2.St} {wd : Nat} {Q : VK} (h2 : σ[2]? = some (some (.int wd))) (w45 : wd ≤ 45) (q : ∀ tot H3, Same H1 H3 → Row H3 tot (List.replicate wd 0) → Q tot H3) : tOp (rRepA K) (tTup (tCons (tC (.int 0)) tNil)) (tVar 2) σ H1 Q := by
  have e : ∀ n : Nat, (List.replicate n [V.int 0]).flatten = (List.replicate n (0 : Int)).map V.int := fun n => by
    induction n with
    | zero => rfl
    | succ n ih => rw [List.replicate_succ, List.flatten_cons, ih, List.replicate_succ]; rfl
  refine ⟨by show 1 ≤ sizeLine; decide, fun t nt => ⟨_, h2, t, wd, [.int 0], rfl, rfl, SqT.of upd_same, by simp, by omega, by omega, by decide, fun e1 => q _ _ (same_new nt) ⟨t, rfl, .inl ?_, ?_⟩, fun _ p np => q _ _ ((same_new nt).trans (same_new np)) ⟨p, rfl, .inl ?_, ?_⟩⟩⟩
  · obtain rfl : wd = 1 := by omega
    exact upd_same
  · rw [List.length_replicate]
    exact w45
  · rw [Int.toNat_natCast, e]
    exact upd_same
  · rw [List.length_replicate]
    exact w45
section
variable {P : Program} {w : World} {K : PySem.W.Frag} {mg : Str → Option Value} {base : Heap}
theorem ok_all {f f1 f2 : Addr} {fd fd1 fd2 : FuncData} (F : Fun K "all_checks" "all_checks" sAll f fd) (G1 : FnOk P w K mg base CX0 1 f1 fd1 ["number", "power"] spRaised) (k1 : PySem.W.keepIn K (.ref f1) = true) (b1 : Binds K fd1 ["number", "power"] []) (g1 : mg "raised" = some (.ref f1))
    (G2 : FnOk P w K mg base CX0 1 f2 fd2 ["row", "number", "other"] spPlus) (k2 : PySem.W.keepIn K (.ref f2) = true) (b2 : Binds K fd2 ["row", "number", "other"] []) (g2 : mg "plus_times" = some (.ref f2))
    (ml : mg "len" = none) (mm : mg "min" = none) (mr : mg "range" = none) : FnOk P w K mg base CX0 2 f fd ["tuples", "count"] spAll := by
  have S := scAll
  refine F.ok S (fun vs H Q E h => ?_) (fun cdv A outer s H vs Q E hr h => ?_)
  · obtain ⟨a, n, l, wd, rfl, _⟩ := h
    rfl
  · obtain ⟨a, n, l, wd, rfl, hT, ok, hn, q⟩ := h
    have hu := hu_of hr
    refine ⟨_, (pss_cons (ps_set (i := 2) S.nd rfl (.inl rfl) (pe_callB call_len_seq (by rfl) ml PySem.boot_len (pa_cons (pe_dget hu (pv 0) (pe_callB (call_minDI rfl) (by rfl) mm (by decide +kernel) (pa_cons (pv 0) pa_nil)) (fun _ _ => rfl)) pa_nil)))
      (pss_cons (ps_set (i := 3) S.nd rfl (.inl rfl) (pe_lst pa_nil))
      (pss_cons (ps_for PassesOwn.never rfl (pi_range1 (by rfl) mr (pa_cons (pv 1) pa_nil)) (pg_name (i := 4) S.nd rfl (.inl rfl))
        (pss_cons (ps_set (i := 5) S.nd rfl (.inl rfl) (pe_op (show OpR _ (binaryOp .Mult) (rRepA K) from op_repA) (pe_tup (pa_cons pe_int pa_nil)) (pv 2)))
        (pss_cons (ps_lock (ps_for PassesOwn.never rfl (pi_keys (pv 0)) (pg_name (i := 6) S.nd rfl (.inl rfl))
          (pss_one (ps_set (i := 5) S.nd rfl (.inl rfl) (pe_call G2 hr (by rfl) g2 k2 b2 .nil pass0 (pa_cons (pv 5) (pa_cons (pe_call G1 hr (by rfl) g1 k1 b1 .nil pass0 (pa_cons (pv 6) (pa_cons (pv 4) pa_nil))) (pa_cons (pe_dget hu (pv 0) (pv 6) (fun _ _ => rfl)) pa_nil))))))))
        (pss_one (ps_expr (pe_bm PySem.F.plainAttrs_list PySem.F.slot_list_append PySem.F.type_list_append mt_append (pv 3) (pa_cons (pv 5) pa_nil)))))))
      (pss_one (ps_ret (pv 3)))))), ?_⟩
    obtain ⟨ks, hd, hkv⟩ := id hT
    have hnd := hkv.nd ok.nd
    refine ⟨_, rfl, _, rfl, a, ks, l.map (·.1), rfl, hd, hkv.keys, fun z => ?_, fun m hm => ?_⟩
    · have y := ok.n1
      rw [← List.length_map (f := (·.1)), z] at y
      exact absurd y (by decide)
    obtain ⟨i0, hi0⟩ := List.getElem?_of_mem hm
    rw [List.getElem?_map] at hi0
    obtain ⟨⟨m', ns0⟩, hl0, e0⟩ := Option.map_eq_some_iff.mp hi0
    obtain rfl : m' = m := e0
    obtain ⟨v0, hv0, a0, rfl, r0, n0⟩ := hkv.there hl0
    have len0 : ns0.length = wd := ok.ww _ (List.mem_of_getElem? hl0)
    refine ⟨a, _, rfl, (valI_nodup hnd (List.mem_of_getElem? hv0)) ▸ DGet.k (k := Sum.inl m') hd, a0, _, rfl, .inr (.inl r0), ?_⟩
    rw [List.length_map, len0]
    refine ⟨by show 0 ≤ sizeLine; decide, fun lc nlc => ?_⟩
    have w45 := ok.w45
    refine ⟨_, rfl, n, rfl, by omega, by omega, for_range (fun i σ H1 => ∃ y4 y5 y6 cs, σ = [some (.ref a), some (.int n), some (.int wd), some (.ref lc), y4, y5, y6] ∧ Same H H1 ∧ H1 lc = some (.lst cs) ∧ RowsL H1 cs ((List.range i).map fun k => checkL wd k l))
      ⟨none, none, none, [], rfl, same_new nlc, upd_same, rfl, fun i v e => by cases e⟩ ?_ ?_⟩
    · rintro i σ H1 hi ⟨y4, y5, y6, cs, rfl, s1, elc, hcs⟩
      have i4 : i ≤ 4 := by omega
      refine zeros (σ := [some (.ref a), some (.int n), some (.int wd), some (.ref lc), some (.int (0 + (i : Int))), y5, y6]) rfl w45 fun tot0 H3 s3 htot0 => ?_
      have s13 := s1.trans s3
      have hd3 := s13 _ _ hd
      have hkv3 := hkv.same s13
      refine ⟨a, _, hd3, trivial, fun od => ?_⟩
      refine ⟨_, rfl, a, od, rfl, .inl ⟨ks, upd_same, for_it walk_keys (fun j σ H4 => ∃ y6 tot, σ = [some (.ref a), some (.int n), some (.int wd), some (.ref lc), some (.int (0 + (i : Int))), some tot, y6] ∧ Same (upd H3 a (.frz od (.dK ks))) H4 ∧ Row H4 tot ((l.take j).foldl (fun acc p => plusL acc (p.1 ^ i) p.2) (List.replicate wd 0)))
        ⟨_, _, rfl, Same.refl _, htot0.lock hd3⟩ (fun j σ H4 _ ⟨_, _, _, s4, _⟩ => s4 _ _ upd_same) ?_ ?_⟩⟩
      · rintro j x σ H4 H5 hj ⟨y6, tot, rfl, s4, ht⟩ ⟨rfl, k, v, hk, rfl⟩
        obtain ⟨seat, ns, hl, rfl, hr1⟩ := hkv3.at_ hk
        have mem := List.mem_of_getElem? hl
        have hs9 := ok.st _ mem
        have pw := pow_small hs9.1 hs9.2 i4
        have hrow : Row H5 v ns := (hr1.lock hd3).same s4
        refine ⟨_, rfl, _, rfl, _, rfl, seat, i, by rw [Int.zero_add]; rfl, by omega, by omega, by omega, ?_⟩
        refine ⟨_, rfl, _, rfl, a, _, rfl, .inl ⟨ks, .inl seat, .inr ⟨od, s4 _ _ upd_same⟩, rfl, (valI_nodup hnd (List.mem_of_getElem? hk)).symm⟩, tot, v, _, ns, seat ^ i, rfl, ht, hrow, ?_, pw.1, pw.2, fun u H6 s6 hu6 => ?_⟩
        · rw [fold_len _ _ (List.length_replicate ..) (fun p hp => ok.ww p (List.mem_of_mem_take hp)), ok.ww _ mem]
        · refine ⟨_, _, rfl, s4.trans s6, ?_⟩
          rw [List.take_add_one, hl, List.foldl_append]
          exact hu6
      · rintro σ H4 ⟨y6, tot, rfl, s4, ht⟩
        rw [hkv3.len, List.take_length] at ht
        have fz := s4 _ _ upd_same
        have sU : Same H3 (upd H4 a (.dK ks)) := same_unlock hd3 s4
        refine ⟨fz, ?_⟩
        have ht2 := ht.unlock fz
        generalize upd H4 a (.dK ks) = H5 at sU ht2 ⊢
        have elc5 := sU _ _ (s3 _ _ elc)
        refine ⟨_, rfl, .inl ⟨rfl, _, SqL.of elc5⟩, _, rfl, lc, cs, tot, rfl, rfl, elc5, ?_, _, _, _, _, rfl, ?_, upd_same, ?_⟩
        · have z := hcs.1
          rw [List.length_map, List.length_range] at z
          exact small1000 (by omega)
        · exact same_own nlc (s1.trans (s3.trans sU))
        · rw [List.range_succ, List.map_append]
          have keep : ∀ {v : V} {ns : List Int}, Row H5 v ns → Row (upd H5 lc (.lst (cs ++ [tot]))) v ns := fun ⟨b, e, r, n⟩ => by
            have ne : b ≠ lc := fun z => by
              rcases r with r | ⟨o, r⟩ <;> (rw [z, elc5] at r; cases r)
            refine ⟨b, e, ?_, n⟩
            rcases r with r | ⟨o, r⟩
            · exact .inl (by rw [upd_ne ne]; exact r)
            · exact .inr ⟨o, by rw [upd_ne ne]; exact r⟩
          have h5 := hcs.same (s3.trans sU)
          exact RowsL.snoc ⟨h5.1, fun j v e => by
            obtain ⟨ns, e1, r⟩ := h5.2 j v e
            exact ⟨ns, e1, keep r⟩⟩ (keep ht2)
    · rintro σ H1 ⟨y4, y5, y6, cs, rfl, s1, elc, hcs⟩
      rw [Int.toNat_natCast] at hcs
      exact ⟨_, rfl, q _ _ _ s1 nlc elc hcs⟩
end
end Kn
-- part Lv
set_option maxHeartbeats 4000000
/-! list(d.values()). -/
namespace L2
open PySem PySem.Spec PyProof.Rows
def tListV (te : TE) : TE := fun σ H Q => te σ H fun x H1 => ∃ d kvs, x = .ref d ∧ H1 d = some (.dK kvs) ∧ ∀ p, H1 p = none → Q (.ref p) (upd H1 p (.lst (kvs.map (·.2))))
theorem kv_snd : ∀ {kvs : List (Key × V)} {vs : List (Key × Value)}, KV kvs vs → ∀ {j : Nat} {k : Key} {u : Value} {x : V}, vs[j]? = some (k, u) → (kvs.map (·.2))[j]? = some x → RelV x u := by
  intro kvs vs h
  unfold KV at h
  induction h with
  | nil => intro j k u x e _; simp at e
  | cons a _ ih =>
    intro j k u x e1 e2
    cases j with
    | zero =>
      cases e1
      cases e2
      exact a.2
    | succ j => exact ih (by simpa using e1) (by simpa using e2)
section
variable {X : Cx} {e : Expr} {te : TE} {p pos apos cpos : Pos}
theorem pe_listV (hc : X.calm = true) (he : PE X e te) (hg : Gl X "list") (hm : X.mg "list" = none) (hbase : attributeBase e "values" X.env (eval e X.env) = eval e X.env := by rfl) (hline : (apos.endLine == cpos.line) = true := by rfl)
    (hs : starEach [.Call (.Attribute e "values" apos) [] [] cpos] X.env = (false, eval (.Call (.Attribute e "values" apos) [] [] cpos) X.env) :: starEach [] X.env := by rfl) :
    PE X (.Call (.Name "list" p) [.Call (.Attribute e "values" apos) [] [] cpos] [] pos) (tListV te) := by
  constructor
  intro pins s σ H Q I hq
  refine wpAny_Call_Name_kw (ld_blt (u := .type "list") I hg hm (by decide +kernel) ?_)
  refine PyProof.Rows.callWith_type1 ?_ hs rfl
  rw [hs]
  change wpAny _ _ (spliced ((false, eval (.Call (.Attribute e "values" apos) [] [] cpos) X.env) :: backTo pos (starEach [] X.env))) _ _ s
  apply Calls.spliced_cons
  refine wpAny_Call_method (T := "dict") (id := "dict.values") hbase rfl hline F.plainAttrs_dict F.slot_dict_values F.type_dict_values (thn (he.run pins s σ H _ I hq) ?_)
  rintro u s1 ⟨x, H1, I1, rx, d, kvs, rfl, hd, q⟩
  cases (show u = Value.ref d from rx)
  obtain ⟨hz, lo, vs, kv, dof⟩ := (show ObjOk X.prog X.w H1 s1.heap d (.dK kvs) from I1.hok d _ hd)
  obtain ⟨ep, dat⟩ := dof.dictAt
  have lk : kvs.length = vs.length := Paired.length kv
  have kp0 : ∀ b o, s1.heap.get? b = some o → (s1.heap.push { cls := .type "dict_values", data := .fields #[.ref d] }).get? b = some o := fun b o z => Heap.get?_push_of_some _ z
  have I2 : Inv X pins σ H1 { s1 with heap := s1.heap.push { cls := .type "dict_values", data := .fields #[.ref d] } } := I1.kept (t' := s1.toks) kp0
  refine ⟨dof.typeIs, dof.mapOf.noDict, ?_⟩
  change wpAny _ _ (callWith cpos (.builtin "dict.values") [.ref d] [] []) _ X.xe s1
  refine method_meetsIn F.slot_dict_values F.entry_dict_values rfl (PySem.evalArgs_none ⟨rfl, dof.typeIs, F.args_dict_values_1 _, _, meets_dict_values (mixKind X.prog X.w) d lo, ⟨vs, dof⟩, ?_⟩)
  apply Calls.spliced_nil
  refine PySem.W.kdl_call (PySem.W.kdl_values (knd := mixKind X.prog X.w) (kvs := vs) (ep := ep)) (I1.ok.hd hc) ⟨⟨_, Heap.get?_push_size _ rfl, rfl, rfl⟩, dat.push _⟩ (by rw [← lk]; exact hz) fun g tk acc c hk hS it => ?_
  have al : acc.toList.length = vs.length := by rw [Array.length_toList, it.1]
  have rel : Vals (kvs.map (·.2)) acc.toList := by
    refine vals_of_at (by rw [List.length_map, al, lk]) fun j x v h1 h2 => ?_
    obtain ⟨k, e1⟩ := it.2 j v (by rw [← Array.getElem?_toList]; exact h2)
    exact kv_snd kv e1 h1
  refine ⟨.ref _, _, I2.laid (t' := tk) hk (Nat.le_refl _) (show ObjOk X.prog X.w _ _ _ (.lst (kvs.map (·.2))) from ⟨by rw [List.length_map]; exact hz, acc.toList, c, rel, by rw [Array.toArray_toList]; exact hS⟩), rfl, q _ (I2.hok.fresh (Nat.le_refl _))⟩
end
end L2
-- part TSeat
set_option maxHeartbeats 4000000
/-! are_seated, are_tuples. -/
namespace Kn
open PySem PySem.Spec PyProof.Rows L2
abbrev sSeated : Stmt := topS 21
abbrev sTuples : Stmt := topS 22
abbrev NSe : List Str := ["value", "key"]
abbrev NTu : List Str := ["value", "row"]
theorem scSe : FnScope NSe ["value"] (defScope sSeated) := ⟨rfl, rfl, rfl, by decide +kernel, rfl, by decide +kernel, by decide +kernel⟩
theorem scTu : FnScope NTu ["value"] (defScope sTuples) := ⟨rfl, rfl, rfl, by decide +kernel, rfl, by decide +kernel, by decide +kernel⟩
def seatK : Option Key → Bool
  | some (.inl i) => decide (1 ≤ i) && decide (i ≤ 9)
  | _ => false
def seatedW : W → Bool
  | .dct kws => decide ((1 : Int) ≤ (kws.length : Int)) && (decide ((kws.length : Int) ≤ 8) && kws.all fun p => seatK p.1)
  | _ => false
theorem seat_key (k : Key) : withinW 1 9 (keyW k) = seatK (some k) := by
  cases k <;> rfl
def tuplesW : W → Bool
  | .dct kws => seatedW (.dct kws) && (kws.all (fun p => tupNW p.2) && wideW (kws.map (·.2)))
  | _ => false
def spTuples : Sp := fun vs H Q _ => ∃ v w, vs = [v] ∧ Is H v w ∧ NF H v ∧ ∀ H', Same H H' → Q (.bl (tuplesW w)) H'
theorem seated_dct {w : W} (h : seatedW w = true) : ∃ kws, w = .dct kws := by
  cases w with
  | dct kws => exact ⟨kws, rfl⟩
  | _ => cases h
theorem IsKV.vals {H : Hp} : ∀ {ks : List (Key × V)} {kws : List (Option Key × W)}, IsKV H (ks.map fun p => (some p.1, p.2)) kws → IsAll H (ks.map (·.2)) (kws.map (·.2))
  | [], _, .nil => .nil
  | _ :: _, _, .cons _ h t => .cons h (IsKV.vals t)
theorem tupN_tup {w : W} (h : tupNW w = true) : isTupW w = true := by
  cases w with
  | tup ws => rfl
  | _ => cases h
def spSeated : Sp := fun vs H Q _ => ∃ v w, vs = [v] ∧ Is H v w ∧ NF H v ∧ ∀ H', Same H H' → Q (.bl (seatedW w)) H'
section
variable {P : Program} {w : World} {K : PySem.W.Frag} {mg : Str → Option Value} {base : Heap}
theorem ok_seated {f f1 : Addr} {fd fd1 : FuncData} (F : Fun K "are_seated" "are_seated" sSeated f fd) (G1 : FnOk P w K mg base CX0 3 f1 fd1 ["value"] spSeat) (k1 : PySem.W.keepIn K (.ref f1) = true) (b1 : Binds K fd1 ["value"] []) (g1 : mg "is_seat" = some (.ref f1))
    (mi : mg "isinstance" = none) (m1 : mg "dict" = none) (ml : mg "len" = none) (ma : mg "all" = none) (mw : ∃ u, mg "MOST_SEATS" = some u ∧ RelV (.int 8) u) : FnOk P w K mg base CX0 4 f fd ["value"] spSeated := by
  have S := scSe
  refine F.ok S (fun vs H Q E h => ?_) (fun cdv A outer s H vs Q E hr h => ?_)
  · obtain ⟨v, u, rfl, _⟩ := h
    rfl
  · obtain ⟨v, u, rfl, hv, nf, q⟩ := h
    refine ⟨_, pss_one (ps_ret (pe_and (pe_callB call_isi (by rfl) mi PyProof.Rows.boot_isinstance (pa_cons (pv 0) (pa_cons (pe_bltn (v := .ty "dict") (by rfl) m1 (by decide +kernel) rfl) pa_nil)))
      (pe_and (pe_chain op_le op_le pe_int (pe_callB call_lenD (by rfl) ml PySem.boot_len (pa_cons (pv 0) pa_nil)) (pe_known (by rfl) mw))
        (pe_one (pe_lock (pe_callB (cr_all (by rfl)) (by rfl) ma (by decide +kernel) (pa_cons (pe_lc (own := [("key", 1)]) (g := gName 1) rfl S.nd (pi_keys (pv 0)) (blkOk_by (N := NSe) (sc := defScope sSeated) (by decide +kernel)) (fun _ _ _ _ _ => pg_name (i := 1) S.nd rfl (.inl rfl)) (fun _ _ _ _ _ => pts_nil)
          (fun _ _ _ _ _ => pe_call G1 hr (by rfl) g1 k1 b1 .nil pass0 (pa_cons (pv 1) pa_nil))) pa_nil))))))), ?_⟩
    refine ⟨_, rfl, v, .ty "dict", .type (tyN u), .type "dict", isTy "dict" u, rfl, .ty _, hv.ty, Is.kit (by decide), _, rfl, ?_⟩
    have hs : (∃ kws, u = .dct kws) ∨ (isTy "dict" u = false ∧ seatedW u = false) := by
      cases u with
      | dct kws => exact .inl ⟨kws, rfl⟩
      | _ => exact .inr ⟨by kernel_rfl, rfl⟩
    rcases hs with ⟨kws, rfl⟩ | ⟨e1, e2⟩
    · obtain ⟨a, ks, rfl, hd, hkv, hz, lk⟩ := NF.dict hv nf
      have e : isTy "dict" (.dct kws) = true := by kernel_rfl
      have ev : seatedW (.dct kws) = (decide ((1 : Int) ≤ (kws.length : Int)) && (decide ((kws.length : Int) ≤ 8) && kws.all fun p => seatK p.1)) := rfl
      have fin : seatedW (.dct kws) = false → Q (.bl false) H := fun e => by
        have z := q H (Same.refl _)
        rw [e] at z
        exact z
      rw [e]
      refine iteT ⟨_, rfl, a, ks, rfl, hd, _, _, rfl, rfl, _, rfl, ?_⟩
      rw [lk]
      cases e1 : decide ((1 : Int) ≤ (kws.length : Int)) with
      | false => exact iteF ⟨_, rfl, iteF (fin (by rw [ev, e1]; rfl))⟩
      | true =>
        refine iteT ⟨_, _, rfl, rfl, _, rfl, ?_⟩
        cases e2 : decide ((kws.length : Int) ≤ 8) with
        | false => exact iteF (fin (by rw [ev, e1, e2]; rfl))
        | true =>
          rw [e1, e2, Bool.true_and, Bool.true_and] at ev
          refine iteT (keys_read (vs := (kws.map fun p => seatK p.1).map V.bl) rfl hd hz (by rw [List.length_map, List.length_map, lk]) ?_ ?_ (fun x => rfl))
          · intro od i b x k H4 hk hb s4 R hR
            have hsm := hkv.sm1 hk
            refine ⟨_, rfl, kV k, keyW k, rfl, is_key hsm, ?_⟩
            have z : b = .bl (withinW 1 9 (keyW k)) := by
              obtain ⟨wi, hwi, _⟩ := hkv.val hk
              rw [List.getElem?_map, List.getElem?_map, hwi] at hb
              rw [seat_key]
              exact (Option.some.inj hb).symm
            rw [← z]
            exact hR H4 (Same.refl _)
          · intro od D H3 s3 hD
            refine ⟨D, _, rfl, SqL.of hD, s3 _ _ upd_same, ?_⟩
            rw [show (kws.map fun p => seatK p.1).all id = kws.all fun p => seatK p.1 by rw [List.all_map]; rfl, ← ev]
            exact q _ (same_unlock hd s3)
    · rw [e1]
      have z := q H (Same.refl _)
      rw [e2] at z
      exact iteF z
theorem ok_tuples {f f1 f2 f3 : Addr} {fd fd1 fd2 fd3 : FuncData} (F : Fun K "are_tuples" "are_tuples" sTuples f fd) (G1 : FnOk P w K mg base CX0 4 f1 fd1 ["value"] spSeated) (k1 : PySem.W.keepIn K (.ref f1) = true) (b1 : Binds K fd1 ["value"] []) (g1 : mg "are_seated" = some (.ref f1))
    (G2 : FnOk P w K mg base CX0 3 f2 fd2 ["value"] spTupN) (k2 : PySem.W.keepIn K (.ref f2) = true) (b2 : Binds K fd2 ["value"] []) (g2 : mg "is_tuple_of_numbers" = some (.ref f2))
    (G3 : FnOk P w K mg base CX0 1 f3 fd3 ["rows"] spWide) (k3 : PySem.W.keepIn K (.ref f3) = true) (b3 : Binds K fd3 ["rows"] []) (g3 : mg "are_alike_wide" = some (.ref f3))
    (ma : mg "all" = none) (ml : mg "list" = none) : FnOk P w K mg base CX0 5 f fd ["value"] spTuples := by
  have S := scTu
  refine F.ok S (fun vs H Q E h => ?_) (fun cdv A outer s H vs Q E hr h => ?_)
  · obtain ⟨v, u, rfl, _⟩ := h
    rfl
  · obtain ⟨v, u, rfl, hv, nf, q⟩ := h
    have hr3 := hr.mono (show 3 ≤ 4 by decide)
    have hr1 := hr.mono (show 1 ≤ 4 by decide)
    refine ⟨_, pss_cons (ps_if (PW.pt (pw_or (pt_not (pt_val (pe_call G1 hr (by rfl) g1 k1 b1 .nil pass0 (pa_cons (pv 0) pa_nil))))
        (pw_or1 (pt_not (pt_val (pe_lock (pe_callB (cr_all (by rfl)) (by rfl) ma (by decide +kernel) (pa_cons (pe_lc (own := [("row", 1)]) (g := gName 1) rfl S.nd (pi_values (pv 0)) (blkOk_by (N := NTu) (sc := defScope sTuples) (by decide +kernel)) (fun _ _ _ _ _ => pg_name (i := 1) S.nd rfl (.inl rfl)) (fun _ _ _ _ _ => pts_nil)
          (fun _ _ _ _ _ => pe_call G2 hr3 (by rfl) g2 k2 b2 .nil pass0 (pa_cons (pv 1) pa_nil))) pa_nil)))))))) (pss_one (ps_ret pe_bl)) pss_nil)
      (pss_one (ps_ret (pe_call G3 hr1 (by rfl) g3 k3 b3 .nil pass0 (pa_cons (pe_listV (by rfl) (pv 0) (by rfl) ml) pa_nil)))), ?_⟩
    refine ⟨_, rfl, v, u, rfl, hv, nf, fun H1 s1 => ⟨_, rfl, ?_⟩⟩
    have fin : ∀ H', Same H H' → tuplesW u = false → Q (.bl false) H' := fun H' s' e => by
      have z := q H' s'
      rw [e] at z
      exact z
    cases e1 : seatedW u with
    | false =>
      refine iteT (fin H1 s1 ?_)
      cases u with
      | dct kws =>
        show (seatedW (.dct kws) && _) = false
        rw [e1]
        rfl
      | _ => rfl
    | true =>
      obtain ⟨kws, rfl⟩ := seated_dct e1
      obtain ⟨a, ks, rfl, hd, hkv, hz, lk⟩ := NF.dict hv nf
      have ev : tuplesW (.dct kws) = (kws.all (fun p => tupNW p.2) && wideW (kws.map (·.2))) := by
        show (seatedW (.dct kws) && _) = _
        rw [e1, Bool.true_and]
      refine iteF ?_
      unfold tNot tB
      refine vals_read (vs := (kws.map fun p => tupNW p.2).map V.bl) rfl (s1 _ _ hd) (hkv.same s1) hz (by rw [List.length_map, List.length_map, lk]) ?_ ?_ (fun x => rfl)
      · intro od i x b k wi H4 hk hwi hb s4 his R hR
        refine ⟨_, rfl, x, wi, rfl, his, fun H5 s5 => ?_⟩
        have z : b = .bl (tupNW wi) := by
          rw [List.getElem?_map, List.getElem?_map, hwi] at hb
          exact (Option.some.inj hb).symm
        rw [← z]
        exact hR H5 s5
      · intro od D H3 s3 hD
        refine ⟨D, _, rfl, SqL.of hD, s3 _ _ upd_same, ?_⟩
        have s13 := s1.trans (same_unlock (s1 _ _ hd) s3)
        rw [show (kws.map fun p => tupNW p.2).all id = kws.all fun p => tupNW p.2 by rw [List.all_map]; rfl]
        generalize upd H3 a (.dK ks) = H4 at s13 ⊢
        cases e2 : kws.all fun p => tupNW p.2 with
        | false => exact ⟨_, rfl, iteT (fin H4 s13 (by rw [ev, e2]; rfl))⟩
        | true =>
          rw [e2, Bool.true_and] at ev
          refine ⟨_, rfl, iteF ⟨_, rfl, a, ks, rfl, s13 _ _ hd, fun p np => ?_⟩⟩
          refine ⟨p, _, kws.map (·.2), rfl, upd_same, (hkv.same (s13.trans (same_new np))).vals, by rw [List.length_map]; exact hz, fun w hw => ?_, fun H5 s5 => ?_⟩
          · obtain ⟨x, hx, rfl⟩ := List.mem_map.mp hw
            exact tupN_tup (List.all_eq_true.mp e2 x hx)
          · rw [← ev]
            exact q H5 (s13.trans ((same_new np).trans s5))
end
end Kn
-- part TChk
set_option maxHeartbeats 4000000
/-! are_checks. -/
namespace Kn
open PySem PySem.Spec PyProof.Rows L2
abbrev sChecks : Stmt := topS 23
abbrev NCh : List Str := ["value", "check"]
theorem scCh : FnScope NCh ["value"] (defScope sChecks) := ⟨rfl, rfl, rfl, by decide +kernel, rfl, by decide +kernel, by decide +kernel⟩
theorem pi_both {X : Cx} {tg e : Expr} {t u : L2.TI} (h1 : PI X tg e t) (h2 : PI X tg e u) : PI X tg e (fun σ H R => t σ H R ∨ u σ H R) := ⟨fun pins s σ H R I h => by
  rcases h with h | h
  · exact h1.run pins s σ H R I h
  · exact h2.run pins s σ H R I h⟩
/-- what is in a list or a tuple -/
def seqW : W → Option (List W)
  | .lst ws => some ws
  | .tup ws => some ws
  | _ => none
def checksW (w : W) : Bool := match seqW w with
  | some ws => decide ((ws.length : Int) ≤ 4) && (ws.all tupNW && wideW ws)
  | none => false
theorem isSeq_eq (w : W) : isSeq w = (seqW w).isSome := by
  cases w <;> kernel_rfl
theorem Is.seq {H : Hp} {v : V} {w : W} {ws : List W} (h : Is H v w) (e : seqW w = some ws) : ∃ a xs, v = .ref a ∧ (H a = some (.lst xs) ∨ Rd H a (.tup xs)) ∧ IsAll H xs ws ∧ xs.length ≤ 900 := by
  cases h with
  | lst hz h t =>
    cases e
    exact ⟨_, _, rfl, .inl h, t, hz⟩
  | tup hz h t =>
    cases e
    exact ⟨_, _, rfl, .inr h, t, hz⟩
  | _ => cases e
def spIsList : Sp := fun vs H Q _ => ∃ v w, vs = [v] ∧ Is H v w ∧ ∀ H', Same H H' → Q (.bl (isSeq w)) H'
def spChecks : Sp := fun vs H Q _ => ∃ v w, vs = [v] ∧ Is H v w ∧ ∀ H', Same H H' → Q (.bl (checksW w)) H'
def rLstA (K : PySem.W.Frag) : List V → Hp → VK → Prop := fun xs H Q => ∃ p ys, xs = [.ref p] ∧ (SqL K H p ys ∨ SqT K H p ys) ∧ ∀ l, H l = none → Q (.ref l) (upd H l (.lst ys))
theorem seq_same {H H' : Hp} {a : Addr} {xs : List V} (h : H a = some (.lst xs) ∨ Rd H a (.tup xs)) (s : Same H H') : H' a = some (.lst xs) ∨ Rd H' a (.tup xs) := by
  rcases h with h | h
  · exact .inl (s _ _ h)
  · exact .inr (Rd.same h s)
theorem seq_sq {K : PySem.W.Frag} {H : Hp} {a : Addr} {xs : List V} (h : H a = some (.lst xs) ∨ Rd H a (.tup xs)) : SqL K H a xs ∨ SqT K H a xs := by
  rcases h with h | h
  · exact .inl (SqL.of h)
  · exact .inr (.inl h)
section
variable {P : Program} {w : World} {K : PySem.W.Frag} {mg : Str → Option Value} {base : Heap}
theorem ok_checks {f f1 f2 f3 : Addr} {fd fd1 fd2 fd3 : FuncData} (F : Fun K "are_checks" "are_checks" sChecks f fd) (G1 : FnOk P w K mg base CX0 1 f1 fd1 ["value"] spIsList) (k1 : PySem.W.keepIn K (.ref f1) = true) (b1 : Binds K fd1 ["value"] []) (g1 : mg "is_list" = some (.ref f1))
    (G2 : FnOk P w K mg base CX0 3 f2 fd2 ["value"] spTupN) (k2 : PySem.W.keepIn K (.ref f2) = true) (b2 : Binds K fd2 ["value"] []) (g2 : mg "is_tuple_of_numbers" = some (.ref f2))
    (G3 : FnOk P w K mg base CX0 1 f3 fd3 ["rows"] spWide) (k3 : PySem.W.keepIn K (.ref f3) = true) (b3 : Binds K fd3 ["rows"] []) (g3 : mg "are_alike_wide" = some (.ref f3))
    (ma : mg "all" = none) (ml : mg "list" = none) (mn : mg "len" = none) (mc : ∃ u, mg "MOST_CHECKS" = some u ∧ RelV (.int 4) u) : FnOk P w K mg base CX0 4 f fd ["value"] spChecks := by
  have S := scCh
  refine F.ok S (fun vs H Q E h => ?_) (fun cdv A outer s H vs Q E hr h => ?_)
  · obtain ⟨v, u, rfl, _⟩ := h
    rfl
  · obtain ⟨v, u, rfl, hv, q⟩ := h
    have hr1 := hr.mono (show 1 ≤ 3 by decide)
    refine ⟨_, pss_cons (ps_if (PW.pt (pw_or (pt_not (pt_val (pe_call G1 hr1 (by rfl) g1 k1 b1 .nil pass0 (pa_cons (pv 0) pa_nil))))
        (pw_or1 (pt_cmpR op_gt (pe_callB call_len_seq (by rfl) mn PySem.boot_len (pa_cons (pv 0) pa_nil)) (pe_known (by rfl) mc) (nomark _))))) (pss_one (ps_ret pe_bl)) pss_nil)
      (pss_one (ps_ret (pe_and (pe_callB (cr_all (by rfl)) (by rfl) ma (by decide +kernel) (pa_cons (pe_lc (own := [("check", 1)]) (g := gName 1) rfl S.nd (pi_both (pi_list (pv 0)) (pi_tup (pv 0))) (blkOk_by (N := NCh) (sc := defScope sChecks) (by decide +kernel)) (fun _ _ _ _ _ => pg_name (i := 1) S.nd rfl (.inl rfl)) (fun _ _ _ _ _ => pts_nil)
          (fun _ _ _ _ _ => pe_call G2 hr (by rfl) g2 k2 b2 .nil pass0 (pa_cons (pv 1) pa_nil))) pa_nil))
        (pe_one (pe_call G3 hr1 (by rfl) g3 k3 b3 .nil pass0 (pa_cons (pe_callTy (show CallR _ (.type "list") (rLstA K) from call_list_of) (by rfl) ml (by decide +kernel) (pa_cons (pv 0) pa_nil)) pa_nil)))))), ?_⟩
    refine ⟨_, rfl, v, u, rfl, hv, fun H1 s1 => ⟨_, rfl, ?_⟩⟩
    rw [isSeq_eq]
    have ev : checksW u = (match seqW u with
      | some ws => decide ((ws.length : Int) ≤ 4) && (ws.all tupNW && wideW ws)
      | none => false) := rfl
    have fin : ∀ H', Same H H' → checksW u = false → Q (.bl false) H' := fun H' s' e => by
      have z := q H' s'
      rw [e] at z
      exact z
    cases e1 : seqW u with
    | none => exact iteT (fin H1 s1 (by rw [ev, e1]))
    | some ws =>
      have ev : checksW u = (decide ((ws.length : Int) ≤ 4) && (ws.all tupNW && wideW ws)) := by
        rw [ev, e1]
      obtain ⟨a, xs, rfl, ha, t, hz⟩ := hv.seq e1
      have el : xs.length = ws.length := t.len
      refine iteF ⟨_, rfl, a, xs, rfl, seq_sq (seq_same ha s1), _, _, rfl, rfl, _, rfl, ?_⟩
      rw [el]
      cases e2 : decide ((ws.length : Int) ≤ 4) with
      | false =>
        have z := of_decide_eq_false e2
        rw [decide_eq_true (by omega)]
        exact iteT (fin H1 s1 (by rw [ev, e2]; rfl))
      | true =>
        have z := of_decide_eq_true e2
        rw [decide_eq_false (by omega)]
        rw [e2, Bool.true_and] at ev
        refine iteF ?_
        have ha1 := seq_same ha s1
        have t1 := t.same s1
        have fin2 : ∀ (D : Addr) (H2 : Hp), PB H1 D (ws.map tupNW) (ws.map tupNW).length H2 → rAll K [.ref D] H2 (fun x H3 => ∃ c, x = .bl c ∧ (if c = true then tCall spWide [] E0 (tCons (tCB (rLstA K) (tCons (tVar 0) tNil)) tNil) (L2.start NCh [.ref a]) H3 Q else Q (.bl false) H3)) := fun D H2 pb => by
          refine ⟨D, _, rfl, SqL.of pb.all, ?_⟩
          rw [show (ws.map tupNW).all id = ws.all tupNW by rw [List.all_map]; rfl]
          have s2 := s1.trans pb.1
          cases e3 : ws.all tupNW with
          | false => exact ⟨_, rfl, iteF (fin H2 s2 (by rw [ev, e3]; rfl))⟩
          | true =>
            rw [e3, Bool.true_and] at ev
            refine ⟨_, rfl, iteT ⟨_, rfl, a, xs, rfl, seq_sq (seq_same ha s2), fun p np => ?_⟩⟩
            refine ⟨p, xs, ws, rfl, upd_same, t.same (s2.trans (same_new np)), hz, fun w hw => tupN_tup (List.all_eq_true.mp e3 w hw), fun H5 s5 => ?_⟩
            rw [← ev]
            exact q H5 (s2.trans ((same_new np).trans s5))
        rcases ha1 with ha1 | ha1
        · refine .inl ⟨_, rfl, a, rfl, ⟨_, SqL.of ha1⟩, fun D nD => lc_it (D := D) walk_list (PB H1 D (ws.map tupNW)) (PB.zero nD) (fun i H' _ p => SqL.of (p.1 _ _ ha1)) ?_ ?_⟩
          · rintro i x H3 H4 hi pb ⟨rfl, hx⟩
            obtain ⟨wi, hwi, his⟩ := t1.get hx
            refine ⟨rfl, ?_⟩
            dsimp only [tYes]
            rw [if_pos rfl]
            exact ⟨_, rfl, x, wi, rfl, his.same pb.1, fun H5 s5 => pb.step s5 nD (by omega) (by rw [List.getElem?_map, hwi]; rfl)⟩
          · intro H2 pb
            have hl : (ws.map tupNW).length = xs.length := by rw [List.length_map, el]
            rw [← hl] at pb
            exact fin2 D H2 pb
        · have wk : Walk (Itt K a) xs.length (fun H' => Same H1 H') (YAt xs) := walk_tup.mono (fun H' s => .inl (Rd.same ha1 s)) (fun _ _ _ _ _ _ y => y)
          refine .inr ⟨_, rfl, a, rfl, ⟨xs, .inl ha1⟩, fun D nD => lc_it (D := D) wk (PB H1 D (ws.map tupNW)) (PB.zero nD) (fun _ _ _ p => p.1) ?_ ?_⟩
          · rintro i x H3 H4 hi pb ⟨rfl, hx⟩
            obtain ⟨wi, hwi, his⟩ := t1.get hx
            refine ⟨rfl, ?_⟩
            dsimp only [tYes]
            rw [if_pos rfl]
            exact ⟨_, rfl, x, wi, rfl, his.same pb.1, fun H5 s5 => pb.step s5 nD (by omega) (by rw [List.getElem?_map, hwi]; rfl)⟩
          · intro H2 pb
            have hl : (ws.map tupNW).length = xs.length := by rw [List.length_map, el]
            rw [← hl] at pb
            exact fin2 D H2 pb
end
end Kn
-- part Ex
set_option maxHeartbeats 4000000
/-! Errors of the package as values: made with their own __init__, which says super().__init__(text) and keeps one attribute. -/
namespace Err
open PySem PySem.Spec PyProof.Rows L2 NdefX
/-- what the top has written of an error class with an __init__ -/
structure Made (P : Program) (K : PySem.W.Frag) (C fI cc cd : Addr) (st : Stmt) (qual p : Str) : Prop where
  T : OexC K C
  iC : PySem.W.findIn K (.ref C) "__init__" = some (some (.ref fI))
  tI : PySem.W.typeIn K (.ref fI) = some (.type "function")
  fn : ∃ oc od kV doc pm an ct osl, K.lookup fI = some ⟨oc, od, .func (PySem.W.fnX "__init__" qual (defArgs st) (defBody st) (defScope st) [("__class__", cc)] .none kV doc pm an (.ref cd) ct), osl⟩
  code : PySem.W.codeIn K (.ref cd) qual = true
  file : ∃ c1 c2 vs c3 file tf, K.lookup cd = some ⟨c1, c2, .fields vs, c3⟩ ∧ vs[2]? = some (.str file tf) ∧ ((P.main.file : Str) == file) = true
  cell : ∃ c1 c2 c3, K.lookup cc = some ⟨c1, c2, .cell (some (.ref C)), c3⟩
  sup : PySem.W.ks_superIn K C C "__init__" = some (some (.builtin "ValueError.__init__"))
  any : PySem.W.nsIn K cStatics "thirdparty.any" = some none
  own : PySem.W.mroIn K C (.ref C) = some true
  subV : PySem.W.subIn K (.ref C) (.type "ValueError") = some true
  noA : PySem.W.findIn K (.ref C) p = some none
  top : (P.main.scope.names.lookup ("super" : Str)).isSome = false
section
variable {X : Cx} {C fI cc cd e : Addr} {st : Stmt} {qual p msg : Str} {pins : List (Addr × Obj)} {σ : L2.St} {H : Hp} {s : Shared} {q1 q2 q3 q4 q5 q6 : Pos} {body : List Stmt}
/-- the evaluation of super().__init__(text), as the positions let it be -/
def SupEv (q1 q2 q3 q4 q5 : Pos) (msg : Str) (pl : Sem Bool) (env : Env) : Prop :=
  eval (.Call (.Attribute (.Call (.Name "super" q1) [] [] q2) "__init__" q3) [.Constant (.str msg) 0 q4] [] q5) env = (do
    let ov ← attributeBase (.Call (.Name "super" q1) [] [] q2) "__init__" env (eval (.Call (.Name "super" q1) [] [] q2) env)
    standAt q3.atName
    let (f, first) ← holding [ov] (getMethod ov "__init__" pl)
    callWith q5 f first (backTo q5 (starEach [.Constant (.str msg) 0 q4] env)) [])
theorem super_at {pl : Sem Bool} (hev : SupEv q1 q2 q3 q4 q5 msg pl X.env) (M : Made X.prog X.K C fI cc cd st qual p) (I : Inv X pins σ H s) (hfu : X.env.func = some fI) (hco : X.env.code = .ref cd) (hks : Gl X "super") (hkc : X.env.kindOf "__class__" = some .free) (hcl : X.env.cells.lookup ("__class__" : Str) = some cc)
    (hN : X.N[0]? = some ("self" : Str)) (hka : X.env.kindOf "self" = some .local) (hp : ((defArgs st).posonlyargs ++ (defArgs st).args).head?.map (·.arg) = some ("self" : Str)) (ms : X.mg "super" = none)
    (hs0 : σ[0]? = some (some (.ref e))) (he : H e = some (exo e C none)) :
    PySem.wpAt (model X.prog X.w) X.A (.func body X.env) (exec (.Expr (.Call (.Attribute (.Call (.Name "super" q1) [] [] q2) "__init__" q3) [.Constant (.str msg) 0 q4] [] q5) q6) X.env)
      (fun fl s' => fl = .next ∧ Inv X pins σ H s') X.xe s := by
  obtain ⟨oc, od, kV, doc, pm, an, ct, osl, lk⟩ := M.fn
  obtain ⟨c1, c2, vs, c3, file, tf, lkc, hvs, hfile⟩ := M.file
  obtain ⟨d1, d2, d3, lcc⟩ := M.cell
  obtain ⟨ar, har, hara⟩ : ∃ ar, ((defArgs st).posonlyargs ++ (defArgs st).args).head? = some ar ∧ ar.arg = ("self" : Str) := by
    cases hq : ((defArgs st).posonlyargs ++ (defArgs st).args).head? with
    | none => rw [hq] at hp; cases hp
    | some ar => rw [hq] at hp; exact ⟨ar, rfl, Option.some.inj hp⟩
  obtain ⟨m, hns, hl⟩ := I.loc
  obtain ⟨u, ru, lu⟩ := hl 0 "self" _ hN hs0 (.inl hka)
  obtain rfl : u = Value.ref e := ru
  have hv : m ("self" : Str) = some (.ref e) := by
    rcases lu with ⟨_, z⟩ | ⟨z, _⟩
    · exact z
    · rcases z with z | z
      · rw [hka] at z; cases z
      · rw [hka] at z; cases z
  obtain ⟨t1, ho⟩ := exo_at I.hok he
  have KX := I.kIn
  obtain ⟨nm, q, N, bs, bm, sn, sub, ab, col, dd, k0, k1, k2, k3, k5, hC, hbm⟩ := M.T.cls
  refine ks_wpAt_Expr_any (ks_wpAt_MethodCall ?_ hev) I.quiet rfl
  refine ks_wpAt_super_base hks hkc rfl hfu (KX _ _ lk) rfl har hco (KX _ _ lkc) rfl hvs hfile M.top ?_
  obtain ⟨mb, hb1, hb2⟩ := I.mod.blt
  refine PySem.W.ks_loadName_global I.ok.kind hks (Calls.loadGlobal_builtin (by rw [I.ok.glob]; exact I.mod.glob.keeps I.bk) ms (by rw [I.ok.blt]; exact hb1.keeps I.bk) ((hb2 _ (by decide)).trans PyProof.Rows.Boot.«super») ⟨rfl, ?_⟩)
  refine wpAny_loadName_free I.ok.kind hkc hcl ⟨_, KX _ _ lcc, rfl⟩ ?_
  refine wpAny_loadName_local I.ok.kind (by rw [hara]; exact hka) hns (by rw [hara]; exact hv) ?_
  obtain ⟨hp1, g, dr, tk, os⟩ := s
  refine ks_wpAny_isType_cls (KX _ _ hC) rfl ⟨rfl, ?_⟩
  refine ks_wpAny_call_super (KX _ _ hC) rfl ho rfl (fun _ z => nomatch z) (PySem.W.looks_mroIn KX M.own) (fun h' es k => ?_)
  have I1 : Inv X pins σ H ⟨h', g, dr, tk, os⟩ := I.kept k
  have ho1 := k _ _ ho
  have In1 : PySem.W.InstAt h' e _ C none := ⟨ho1, rfl, rfl, trivial⟩
  have hm := M.sup
  unfold PySem.W.ks_superIn at hm
  cases hc : PySem.W.clsIn X.K C with
  | none => rw [hc] at hm; cases hm
  | some cd' =>
    rw [hc] at hm
    have hI : PySem.W.Looks (model X.prog X.w) h' (isInstance (.ref e) (.type "ValueError")) true := In1.type.andThen (PySem.W.looks_subIn I1.kIn M.subV)
    refine PySem.W.kxs_getMethod PySem.W.kxs_ValueError es (PySem.W.looks_opaque I1.kIn M.any) (l₀ := cd'.mro) (fun A Q E s k q => wpAny_bind ((PySem.W.looks_clsIn I1.kIn hc) A _ E s k (wpAny_pure q))) rfl I1.kIn hm hI (PySem.W.ks_ne I1.kIn In1 hc) rfl ?_
    have k2 : ∀ b o, h'.get? b = some o → (h'.push (PySem.W.kxs_mw "ValueError.__init__" e)).get? b = some o := fun b o z => Heap.get?_push_of_some _ z
    have I2 : Inv X pins σ H ⟨h'.push (PySem.W.kxs_mw "ValueError.__init__" e), g, dr, tk + 1, os⟩ := I1.kept (t' := tk + 1) k2
    have hu2 : (h'.push (PySem.W.kxs_mw "ValueError.__init__" e)).get? h'.objs.size = some (PySem.W.kxs_mw "ValueError.__init__" e) := Heap.get?_push_at rfl rfl
    have ho2 := k2 _ _ ho1
    generalize h'.push (PySem.W.kxs_mw "ValueError.__init__" e) = h2 at I2 hu2 ho2 ⊢
    refine PySem.W.kxs_callWith (i := "ValueError.__init__") (x := e) rfl (Calls.evalArgs_plain (Calls.spliced_cons (@wpAny_Constant_str _ _ _ _ X.env msg 0 q4 _ ?_)))
    refine Calls.spliced_nil ⟨hu2, ?_⟩
    have I3 : Inv X pins σ H ⟨h2, g, dr, tk + 1 + 1, os⟩ := I2.tok (tk + 1 + 1)
    have FB := F.excBase_ValueError
    refine wpAny_call (codeAny_of_tree ?_)
    show wpAny _ X.A.in1 (callAny (.ref h'.objs.size) ⟨[.str msg (tk + 1)], []⟩) _ _ _
    simp only [callAny]
    refine wpAny_bind (wpAny_load hu2 ?_)
    simp only [PySem.W.kxs_mw, show (Value.type "method-wrapper" == Value.type "method" || Value.type "method-wrapper" == Value.type "builtin_function_or_method" || Value.type "method-wrapper" == Value.type "method-wrapper") = true by decide, if_true]
    refine PySem.W.KFB.if_so (by decide) ?_
    refine wpAny_bind (PySem.W.check_bound_init FB.toExcCallFacts (I3.kIn _ _ hC) ho2 rfl ?_)
    refine wpAny_bind (wpAny_pure (wpAny_pure ?_))
    refine ⟨plainId_quiet FB.init.plain _, codeAny_builtin FB.initEntry ?_⟩
    refine PySem.W.exc_init_tree (cls := .ref C) (t0 := t1) (dv := none) (c2 := .none) (c3 := .none) (b4 := .bool false) ho2 (by show 1 ≤ sizeLine; decide) (fun h3 k3 e3 _ => ?_)
    have J := I3.write (t' := tk + 1 + 1) (x := e) (e := e) (o := exo e C none) (by rw [he]; exact True.intro) (.inl rfl) k3 ⟨_, e3⟩ (exo_ok e3)
    have eu : upd H e (exo e C none) = H := by
      funext b
      by_cases hb : b = e
      · rw [hb, upd_same, he]
      · rw [upd_ne hb]
    rw [eu] at J
    exact ⟨trivial, J⟩
/-- the function's data, as a nested def's -/
abbrev nf (st : Stmt) (qual : Str) (cc cd : Addr) : NF := ⟨"__init__", qual, defArgs st, defBody st, defScope st, [("__class__", cc)], cd⟩
theorem init_code {P : Program} {w : World} {K : PySem.W.Frag} {mg : Str → Option Value} {base : Heap} {A : Around} {outer : List Env} {s : Shared} {H : Hp} {Q : VK} {E : XK} {k : Nat} {args : Args} {u : Value} {x : V} {q7 q8 q9 q10 : Pos} {pl : Sem Bool}
    (M : Made P K C fI cc cd st qual p) (S : NScope ["self", p, "__class__"] ["self", p] ["__class__"] (defScope st))
    (hb : defBody st = [.Expr (.Call (.Attribute (.Call (.Name "super" q1) [] [] q2) "__init__" q3) [.Constant (.str msg) 0 q4] [] q5) q6, .Assign [.Attribute (.Name "self" q7) p q8] (.Name p q9) q10])
    (hev : ∀ env, SupEv q1 q2 q3 q4 q5 msg pl env) (hks : (defScope st).names.lookup ("super" : Str) = some .globalImplicit) (hpa : ((defArgs st).posonlyargs ++ (defArgs st).args).head?.map (·.arg) = some ("self" : Str))
    (hpd : (p == ("__debug__" : Str)) = false) (hpc : (p == ("__classdict__" : Str)) = false) (hsw : ∀ env, swapsWith (.Name p q9) (some (.Attribute (.Name "self" q7) p q8)) q10.line env = pure false)
    (ms : mg "super" = none) (hr : Room k A) (e0 : Env0 P w K mg base A outer s H) (he : H e = some (exo e C none)) (ru : L2.RelV x u)
    (hbind : ∀ kV doc pm an ct, BindsTo s (PySem.W.fnX "__init__" qual (defArgs st) (defBody st) (defScope st) [("__class__", cc)] .none kV doc pm an (.ref cd) ct) args [("self", .ref e), (p, u)])
    (hq : ∀ d, H d = none → d ≠ e → Q .non (upd (upd H d (exd d [(p, x)])) e (exo e C (some d)))) :
    codeAny (model P w) A (.call (.ref fI) args) (CR CX0 outer P w H s Q E) s := by
  obtain ⟨oc, od, kV, doc, pm, an, ct, osl, lk⟩ := M.fn
  obtain ⟨d1, d2, d3, lcc⟩ := M.cell
  have KX : K.In s.heap := e0.mod.kin.keeps fun b o z => (e0.bs b o z).1
  have lim : s.heap.NoLimit := e0.mod.nolimit.keeps fun b o z => (e0.bs b o z).1
  refine ks_codeAny_call_defAt (body := defBody st) (binds := [("self", .ref e), (p, u)]) hr.depth (KX _ _ lk) rfl lim (PySem.W.codeRec_of KX M.code) rfl (hbind _ _ _ _ _) S.nocell ?_ (fun h1 hns kp => ?_) S.co S.gen S.kind
  · intro y hy
    rcases List.mem_cons.mp hy with rfl | hy
    · exact S.par _ (by simp)
    · rcases List.mem_cons.mp hy with rfl | hy
      · exact S.par _ (by simp)
      · cases hy
  have I : Inv (ncx CX0 P w K mg base ["self", p, "__class__"] (nf st qual cc cd) fI A outer s H E) [] (startF ["self", p, "__class__"] [.ref e, x] [some (.ref C)]) H { s with heap := h1, toks := s.toks + 2 } := by
    refine inv_startN (us := [.ref e, u]) S hr.hd e0 rfl (.cons rfl (.cons ru .nil)) ?_ hns kp
    have hcc := e0.mod.kin _ _ lcc
    have one : ∀ (y : Str) (c : Addr), ([("__class__", cc)] : List (Str × Addr)).lookup y = some c → y = "__class__" ∧ c = cc := fun y c z => by
      rw [List.lookup_cons] at z
      by_cases hy : (y == ("__class__" : Str)) = true
      · rw [hy] at z
        exact ⟨eq_of_beq hy, (Option.some.inj z).symm⟩
      · rw [Bool.not_eq_true] at hy
        rw [hy] at z
        cases z
    refine ⟨rfl, fun y c z => ?_, fun a b c z1 z2 => (one _ _ z1).1.trans (one _ _ z2).1.symm, fun i y z => ?_⟩
    · obtain ⟨_, rfl⟩ := one _ _ z
      exact ⟨(e0.bs _ _ hcc).2, _, _, KX _ _ lcc, rfl⟩
    · rcases i with _ | i
      · obtain rfl : ("__class__" : Str) = y := Option.some.inj z
        refine ⟨cc, by rw [List.lookup_cons]; simp, fun v hv => ?_⟩
        obtain rfl : V.ref C = v := Option.some.inj (Option.some.inj hv)
        exact ⟨.ref C, rfl, _, KX _ _ lcc, rfl⟩
      · simp at z
  have kself : (defScope st).names.lookup ("self" : Str) = some .local := S.par _ (by simp)
  have kp' : (defScope st).names.lookup p = some .local := S.par _ (by simp)
  have kcl : (defScope st).names.lookup ("__class__" : Str) = some .free := S.frk _ (by simp)
  show PySem.wpAt (model P w) (ncx CX0 P w K mg base ["self", p, "__class__"] (nf st qual cc cd) fI A outer s H E).A (.func (defBody st) (ncx CX0 P w K mg base ["self", p, "__class__"] (nf st qual cc cd) fI A outer s H E).env) (execs (defBody st) (ncx CX0 P w K mg base ["self", p, "__class__"] (nf st qual cc cd) fI A outer s H E).env) _ _ { s with heap := h1, toks := s.toks + 2 }
  rw [hb]
  refine ks_wpAt_execs_cons (ks_wpAt_mono (super_at (X := ncx CX0 P w K mg base ["self", p, "__class__"] (nf st qual cc cd) fI A outer s H E) (hev _) M I rfl rfl hks kcl (by show List.lookup ("__class__" : Str) [(("__class__" : Str), cc)] = some cc; rw [List.lookup_cons]; simp) rfl kself hpa ms rfl he) (fun fl s' hJ => ?_) fun _ _ z => z)
  obtain ⟨rfl, J⟩ := hJ
  have ht : PSs (ncx CX0 P w K mg base ["self", p, "__class__"] (nf st qual cc cd) fI A outer s H E) [.Assign [.Attribute (.Name "self" q7) p q8] (.Name p q9) q10] _ :=
    pss_one (ps_ost (pe_var (i := 0) rfl (.inl kself)) (pe_var (i := 1) rfl (.inl kp') hpd hpc) (hsw _))
  refine wpAt_of_wpAny (wpAny_mono (ht.run [] s' _ H { nx := fun _ H' => Q .non H', rt := Q } J ?_) (fun fl s'' hs => ?_) fun _ _ z => z)
  · refine ⟨x, rfl, .ref e, rfl, e, C, rfl, M.T, M.noA, .inl ⟨he, fun dx nd ne => hq dx nd ne⟩⟩
  · cases fl with
    | next =>
      obtain ⟨σ', H', J', q⟩ := hs
      exact ⟨.non, H', J'.os, J'.bare, J'.base, J'.hok, rfl, q⟩
    | ret v =>
      obtain ⟨v', σ', H', J', rv, q⟩ := hs
      exact ⟨v', H', J'.os, J'.bare, J'.base, J'.hok, rv, q⟩
    | brk =>
      obtain ⟨_, _, _, q⟩ := hs
      exact False.elim q
    | cont =>
      obtain ⟨_, _, _, q⟩ := hs
      exact False.elim q
end
end Err
-- part ExK
set_option maxHeartbeats 4000000
namespace Err
open PySem PySem.Spec PyProof.Rows L2 NdefX PySem.HandSPX
section
variable {M : Model} {A : Around} {E : Value → Shared → Prop} {h : Heap} {g : Array GenState} {d : Drawn} {t : Nat} {os : OsState} {nm q : Str} {C N : Addr}
  {bs bm bmB : List Value} {hdct : Bool} {sn : List Str} {sub : List Value} {ab : Bool} {col : Option Bool} {dd : Option Addr} {k0 k1 k2 k3 k5 : Option Value} {B newId initId : String}
  {kw : List (Str × Value)}
theorem newK_check (FB : ExcBaseFacts B newId initId bmB) (hT : ∀ X : String, bm.contains (.type X) = bmB.contains (.type X)) {Q : Unit → Shared → Prop}
    (hC : h.get? C = some (excClassObj nm q C N bs bm hdct sn sub ab col dd k0 k1 k2 k3 k5 newId))
    (hq : Q () ⟨h, g, d, t, os⟩) : wpAny M A (checkBuiltinCall newId ⟨[.ref C], kw⟩) Q E ⟨h, g, d, t, os⟩ := by
  have inB : (Value.ref C :: bm).contains (.type B) = true := by
    rw [List.contains_cons, hT, FB.hasB, Bool.or_true]
  have star := FB.noStar
  simp only [checkBuiltinCall, FB.newKind, FB.newSplit, FB.newRow]
  repeat (first
    | refine wpAny_loadPart_at hC ?_
    | (refine wpAny_isSubtype_exc hC ?_
       rw [inB])
    | refine wpAny_staticBase_exc hC ?_
    | refine wpAny_madeBy_exc hC ?_
    | simp only [bne_self_eq_false, Bool.false_eq_true, if_false]
    | wp_step)
  exact hq
end
section
variable {prog : Program} {w : World} {A : Around} {E : Value → Shared → Prop} {R : Result → Shared → Prop} {h : Heap} {g : Array GenState} {d : Drawn} {t : Nat} {os : OsState}
  {nm q : Str} {C N : Addr} {bs bm bmB : List Value} {hdct : Bool} {sn : List Str} {sub : List Value} {ab : Bool} {col : Option Bool} {dd : Option Addr} {k0 k1 k2 k3 k5 : Option Value}
  {B newId initId : String} {kw : List (Str × Value)}
theorem newK_code (FB : ExcBaseFacts B newId initId bmB) (hT : ∀ X : String, bm.contains (.type X) = bmB.contains (.type X))
    (hC : h.get? C = some (excClassObj nm q C N bs bm hdct sn sub ab col dd k0 k1 k2 k3 k5 newId))
    (hq : R (.ok (.ret (.ref (h.objs.size + 1)))) ⟨(h.push (PySem.W.kdv_tup [])).push (excO C h.objs.size), g, d, t, os⟩) :
    codeAny (model prog w) A (.builtin newId ⟨[.ref C], kw⟩) R ⟨h, g, d, t, os⟩ := by
  have ends := FB.ends
  have inB : (Value.ref C :: bm).contains (.type B) = true := by
    rw [List.contains_cons, hT, FB.hasB, Bool.or_true]
  have inA : (Value.ref C :: bm).contains (.type "AttributeError") = false := by
    rw [List.contains_cons, hT, FB.noAttr]
    rfl
  have inN : (Value.ref C :: bm).contains (.type "NameError") = false := by
    rw [List.contains_cons, hT, FB.noName]
    rfl
  refine codeAny_builtinAt FB.entry ?_
  unfold Builtin.«BaseException.__new__»
  refine PySem.wpAt_bind ?_
  show PySem.wpAt _ _ _ (stack >>= _) _ _ _
  refine PySem.wpAt_bind (PySem.wpAt_stack fun _ _ => PySem.wpAt_of_wpAny ?_)
  wp_walk
  refine PySem.wpAt_of_wpAny ?_
  rw [FB.owner]
  repeat (first
    | with_reducible refine wpAny_madeHere_exc FB.canon hC ?_
    | with_reducible refine wpAny_loadPart_at hC ?_
    | (with_reducible refine wpAny_isSubtype_exc hC ?_
       first | rw [inB] | rw [inA] | rw [inN])
    | wp_step)
  show R _ _
  rw [Heap.size_push]
  exact hq
theorem tyK_call (FB : ExcBaseFacts B newId initId bmB) (hT : ∀ X : String, bm.contains (.type X) = bmB.contains (.type X)) {fI : Addr} {Q : Fin → Shared → Prop}
    (hC : h.get? C = some (excClassObj nm q C N bs bm hdct sn sub ab col dd k0 k1 k2 k3 k5 newId))
    (hi : W.Looks (model prog w) h (typeLookup (.ref C) "__init__") (some (.ref fI))) (hb : ∀ self, W.Looks (model prog w) h (bindSpecial (.ref fI) self) (.ref fI, [self]))
    (hq : codeAny (model prog w) A (.call (.ref fI) ⟨[.ref (h.objs.size + 1)], kw⟩)
      (fun r s' => match r with | .ok (.ret v) => v = .none ∧ Q (.done (.ret (.ref (h.objs.size + 1)))) s' | .ok _ => False | .error e => E e s')
      ⟨(h.push (PySem.W.kdv_tup [])).push (excO C h.objs.size), g, d, t, os⟩) :
    wpAny (model prog w) A (Builtin.«type.__call__» ⟨[.ref C], kw⟩) Q E ⟨h, g, d, t, os⟩ := by
  repeat (first
    | with_reducible refine wpAny_loadPart_at hC ?_
    | with_reducible refine wpAny_madeBy_exc hC ?_
    | wp_step)
  refine codeAny_call_builtin_code (Code.quiet_builtin _ FB.quiet) (newK_check FB hT hC ?_)
  refine newK_code FB hT hC ?_
  show wpAny _ _ _ _ _ _
  have kk : ∀ b o, h.get? b = some o → ((h.push (PySem.W.kdv_tup [])).push (excO C h.objs.size)).get? b = some o := fun b o z => Heap.get?_push_of_some _ (Heap.get?_push_of_some _ z)
  have hC2 := kk _ _ hC
  have he2 : ((h.push (PySem.W.kdv_tup [])).push (excO C h.objs.size)).get? (h.objs.size + 1) = some (excO C h.objs.size) := by heap_get
  have inC : (Value.ref C :: bm).contains (.ref C) = true := by simp
  have i2 := hi.keeps kk
  have b2 := (hb (.ref (h.objs.size + 1))).keeps kk
  unfold isInstance
  repeat (first
    | with_reducible refine wpAny_loadPart_at he2 ?_
    | (with_reducible refine wpAny_isSubtype_exc hC2 ?_
       rw [inC])
    | wp_step)
  show wpAny _ _ (typeLookup (.ref C) _) _ _ _
  refine i2.at ?_
  refine wpAny_holding (wpAny_bind (b2.at ?_))
  refine wpAny_bind (wpAny_call (codeAny_mono hq fun r s' z => ?_))
  rcases r with e | (v | _ | _ | _)
  · exact z
  · exact z.elim
  · exact z.elim
  · exact z.elim
  · obtain ⟨rfl, z⟩ := z
    first
      | exact wpAny_pure (wpAny_pure z)
      | (wp_walk; exact z)
theorem callK_own (FB : ExcBaseFacts B newId initId bmB) (hT : ∀ X : String, bm.contains (.type X) = bmB.contains (.type X)) {fI : Addr}
    (hC : h.get? C = some (excClassObj nm q C N bs bm hdct sn sub ab col dd k0 k1 k2 k3 k5 newId))
    (hi : W.Looks (model prog w) h (typeLookup (.ref C) "__init__") (some (.ref fI))) (hb : ∀ self, W.Looks (model prog w) h (bindSpecial (.ref fI) self) (.ref fI, [self]))
    (hq : codeAny (model prog w) (A.under (.builtin "type.__call__" ⟨[.ref C], kw⟩)) (.call (.ref fI) ⟨[.ref (h.objs.size + 1)], kw⟩) (W.InitBack (h.objs.size + 1) R)
      ⟨(h.push (PySem.W.kdv_tup [])).push (excO C h.objs.size), g, d, t, os⟩) :
    codeAny (model prog w) A (.call (.ref C) ⟨[], kw⟩) R ⟨h, g, d, t, os⟩ := by
  have f1 := tc_lookup
  have f2 := tc_bind (.ref C)
  have hTy : (⟨h, g, d, t, os⟩ : Shared).TypeIs (.ref C) "type" := ⟨_, hC, rfl⟩
  refine codeAny_of_tree ?_
  show wpAny _ _ (callAny (.ref C) _) _ _ _
  repeat (any_goals (first
    | assumption
    | with_reducible refine wpAny_loadPart_at hC ?_
    | wp_step))
  refine ⟨rfl, ?_⟩
  refine codeAny_call_builtin_at (Code.quiet_builtin _ (by decide +kernel)) entry_typeCall (wpAny_check_type_call_sub hC (tyK_call FB hT hC hi hb ?_))
  refine codeAny_mono hq fun r s' z => ?_
  rcases r with e | (v | _ | _ | _) <;> exact z
end
end Err
-- part ErrR
set_option maxHeartbeats 4000000
namespace Err
open PySem PySem.Spec PyProof.Rows L2 NdefX
/-- a class of errors that keeps one attribute: all that is asked of the text and of what the top has written -/
structure One (P : Program) (K : PySem.W.Frag) (C : Addr) (p : Str) : Prop where
  ex : ∃ (fI cc cd : Addr) (st : Stmt) (qual msg : Str) (q1 q2 q3 q4 q5 q6 q7 q8 q9 q10 : Pos) (pl : Sem Bool), Made P K C fI cc cd st qual p ∧
    NScope ["self", p, "__class__"] ["self", p] ["__class__"] (defScope st) ∧
    defBody st = [.Expr (.Call (.Attribute (.Call (.Name "super" q1) [] [] q2) "__init__" q3) [.Constant (.str msg) 0 q4] [] q5) q6, .Assign [.Attribute (.Name "self" q7) p q8] (.Name p q9) q10] ∧
    (∀ env, SupEv q1 q2 q3 q4 q5 msg pl env) ∧ (defScope st).names.lookup ("super" : Str) = some .globalImplicit ∧ ((defArgs st).posonlyargs ++ (defArgs st).args).head?.map (·.arg) = some ("self" : Str) ∧
    (p == ("__debug__" : Str)) = false ∧ (p == ("__classdict__" : Str)) = false ∧ (∀ env, swapsWith (.Name p q9) (some (.Attribute (.Name "self" q7) p q8)) q10.line env = pure false) ∧
    (∀ kV doc pm an ct e u, bindArgs (PySem.W.fnX "__init__" qual (defArgs st) (defBody st) (defScope st) [("__class__", cc)] .none kV doc pm an (.ref cd) ct) ⟨[e, u], []⟩ = pure [(("self" : Str), e), (p, u)]) ∧
    (∀ kV doc pm an ct e u, bindArgs (PySem.W.fnX "__init__" qual (defArgs st) (defBody st) (defScope st) [("__class__", cc)] .none kV doc pm an (.ref cd) ct) ⟨[e], [(p, u)]⟩ = pure [(("self" : Str), e), (p, u)])
/-- the reading: a new error a, with a dict d of its own -/
def tErr (C : Addr) (p : Str) (te : TE) : TE := fun σ H Q => te σ H fun v H1 => ∀ a d, H1 a = none → H1 d = none → d ≠ a → Q (.ref a) (upd (upd H1 d (exd d [(p, v)])) a (exo a C (some d)))
section
variable {X : Cx} {C : Addr} {p x : Str} {e : Expr} {te : TE} {cp pos : Pos}
theorem upd_swap (H : Hp) {a d : Addr} (o1 o2 o3 : HO) (h : d ≠ a) : upd (upd (upd H a o1) d o2) a o3 = upd (upd H d o2) a o3 := by
  funext b
  by_cases hb : b = a
  · rw [hb, upd_same, upd_same]
  · rw [upd_ne hb, upd_ne hb]
    by_cases hd : b = d
    · rw [hd, upd_same, upd_same]
    · rw [upd_ne hd, upd_ne hd, upd_ne hb]
theorem err_new {pins : List (Addr × Obj)} {σ : L2.St} {H : Hp} {s : Shared} {Q : VK} {u : Value} {v : V} (T : One X.prog X.K C p) (ms : X.mg "super" = none) (hr : Room 1 X.A) (I : Inv X pins σ H s) (ru : L2.RelV v u)
    (hq : ∀ a d, H a = none → H d = none → d ≠ a → Q (.ref a) (upd (upd H d (exd d [(p, v)])) a (exo a C (some d)))) (us : List Value) (kw : List (Str × Value)) (hus : (us = [u] ∧ kw = []) ∨ (us = [] ∧ kw = [(p, u)])) :
    wpAny (model X.prog X.w) X.A (call (.ref C) us kw) (EP X pins σ Q) X.xe s := by
  obtain ⟨fI, cc, cd, st, qual, msg, q1, q2, q3, q4, q5, q6, q7, q8, q9, q10, pl, M, S, hb, hev, hks, hpa, hpd, hpc, hsw, b1, b2⟩ := T.ex
  obtain ⟨nm, q, N, bs, bm, sn, sub, ab, col, dd, k0, k1, k2, k3, k5, hC, hbm⟩ := M.T.cls
  obtain ⟨hp, g, dr, tk, os⟩ := s
  have hsz : hp.objs.size ≤ hp.objs.size + 1 := Nat.le_succ _
  have hn : H (hp.objs.size + 1) = none := I.hok.fresh hsz
  have kk : ∀ vs b o, hp.get? b = some o → ((hp.push (PySem.W.kdv_tup vs)).push (PySem.HandSPX.excO C hp.objs.size)).get? b = some o := fun vs b o z => Heap.get?_push_of_some _ (Heap.get?_push_of_some _ z)
  have hget : ∀ vs, ((hp.push (PySem.W.kdv_tup vs)).push (PySem.HandSPX.excO C hp.objs.size)).get? (hp.objs.size + 1) = some (PySem.HandSPX.excO C hp.objs.size) := fun vs => by heap_get
  have I2 : ∀ vs, Inv X pins σ (upd H (hp.objs.size + 1) (exo (hp.objs.size + 1) C none)) ⟨(hp.push (PySem.W.kdv_tup vs)).push (PySem.HandSPX.excO C hp.objs.size), g, dr, tk, os⟩ := fun vs =>
    I.laid (t' := tk) (a := hp.objs.size + 1) (o := exo (hp.objs.size + 1) C none) (h' := (hp.push (PySem.W.kdv_tup vs)).push (PySem.HandSPX.excO C hp.objs.size)) (kk vs) hsz (exo_ok (hget vs))
  have hT := fun Y => PySem.HandSPX.refsVE_contains Y bm hbm
  have fin : ∀ (vs : List Value) (r : Result) (s' : Shared),
      CR CX0 X.stack X.prog X.w (upd H (hp.objs.size + 1) (exo (hp.objs.size + 1) C none)) ⟨(hp.push (PySem.W.kdv_tup vs)).push (PySem.HandSPX.excO C hp.objs.size), g, dr, tk, os⟩ (fun v H' => v = .non ∧ Q (.ref (hp.objs.size + 1)) H') (fun _ _ _ => False) r s' →
      PySem.W.InitBack (hp.objs.size + 1) (fun r s' => match r with | .ok (.ret v) => EP X pins σ Q v s' | .ok _ => False | .error e => X.xe e s') r s' := fun vs r s' hr => by
    cases r with
    | error er => exact False.elim hr
    | ok fl =>
      cases fl with
      | ret w' =>
        obtain ⟨v', H', J, rv, ev, q'⟩ := (I2 vs).after hr
        subst ev
        exact ⟨rv, .ref (hp.objs.size + 1), H', J, rfl, q'⟩
      | next => exact False.elim hr
      | brk => exact False.elim hr
      | cont => exact False.elim hr
  have last : ∀ d, upd H (hp.objs.size + 1) (exo (hp.objs.size + 1) C none) d = none → d ≠ hp.objs.size + 1 →
      V.non = V.non ∧ Q (.ref (hp.objs.size + 1)) (upd (upd (upd H (hp.objs.size + 1) (exo (hp.objs.size + 1) C none)) d (exd d [(p, v)])) (hp.objs.size + 1) (exo (hp.objs.size + 1) C (some d))) := fun d nd ne => by
    rw [upd_ne ne] at nd
    rw [upd_swap _ _ _ _ ne]
    exact ⟨rfl, hq _ d hn nd ne⟩
  rcases hus with ⟨rfl, rfl⟩ | ⟨rfl, rfl⟩
  · refine wpAny_call (PySem.HandSPX.call_own F.excBase_ValueError hT (I.kIn _ _ hC) (PySem.W.looks_findIn I.kIn M.iC) (fun self => PySem.W.bind_fn I.kIn self M.tI) (by show 1 ≤ sizeLine; decide)
      (codeAny_mono (init_code M S hb hev hks hpa hpd hpc hsw ms (hr.make C [u] []) ((I2 [u]).env0.make C [u] []) upd_same ru (fun kV doc pm an ct => .of_eq (b1 _ _ _ _ _ _ _)) last) fun r s' h => fin [u] r s' h))
  · refine wpAny_call (callK_own F.excBase_ValueError hT (I.kIn _ _ hC) (PySem.W.looks_findIn I.kIn M.iC) (fun self => PySem.W.bind_fn I.kIn self M.tI)
      (codeAny_mono (init_code M S hb hev hks hpa hpd hpc hsw ms (hr.make C [] [(p, u)]) ((I2 []).env0.make C [] [(p, u)]) upd_same ru (fun kV doc pm an ct => .of_eq (b2 _ _ _ _ _ _ _)) last) fun r s' h => fin [] r s' h))
/-- C(e) -/
theorem pe_err (T : One X.prog X.K C p) (ms : X.mg "super" = none) (hr : Room 1 X.A) (hg : Gl X x) (hm : X.mg x = some (.ref C)) (kC : PySem.W.keepIn X.K (.ref C) = true) (he : PE X e te)
    (hs : starEach [e] X.env = (false, eval e X.env) :: starEach [] X.env := by rfl) (hdb : (x == ("__debug__" : Str)) = false := by decide) : PE X (.Call (.Name x cp) [e] [] pos) (tErr C p te) := by
  refine ⟨fun pins s σ H Q I h => ?_⟩
  refine wpAny_Call_Name_kw (ld_glob I hg hm ?_ hdb)
  refine PySem.W.callWith_K (h₀ := X.base) I.ok.mod.kin kC ?_ hs (by rfl)
  rw [hs]
  show wpAny _ _ (spliced ((false, eval e X.env) :: backTo pos (starEach [] X.env))) _ _ s
  refine Calls.spliced_cons (thn (he.run pins s σ H _ I h) fun u s1 ⟨v, H1, I1, r1, q1⟩ => ?_)
  refine Calls.spliced_nil ⟨I1.kIn, ?_⟩
  exact err_new T ms hr I1 r1 q1 [u] [] (.inl ⟨rfl, rfl⟩)
end
end Err
-- part ErrV
set_option maxHeartbeats 4000000
namespace Err
open PySem PySem.Spec PyProof.Rows L2 NdefX
section
variable {X : Cx} {C : Addr} {p x : Str} {e : Expr} {te : TE} {cp kp pos : Pos}
/-- C(p=e) -/
theorem pe_errK (T : One X.prog X.K C p) (ms : X.mg "super" = none) (hr : Room 1 X.A) (hg : Gl X x) (hm : X.mg x = some (.ref C)) (kC : PySem.W.keepIn X.K (.ref C) = true) (he : PE X e te)
    (hall : (backToKw pos (keywordEach [⟨some p, e, kp⟩] X.env)).all (·.1.isSome) = true := by rfl) (hks : (backToKw pos (keywordEach [⟨some p, e, kp⟩] X.env)).filterMap (·.1) = [p] := by rfl)
    (hpl : ((backTo pos (starEach [] X.env)).any (·.1) || (backToKw pos (keywordEach [⟨some p, e, kp⟩] X.env)).any (·.1.isNone)) = false := by rfl)
    (hdb : (x == ("__debug__" : Str)) = false := by decide) : PE X (.Call (.Name x cp) [] [⟨some p, e, kp⟩] pos) (tErr C p te) := by
  refine ⟨fun pins s σ H Q I h => ?_⟩
  refine wpAny_Call_Name_kw (ld_glob I hg hm ?_ hdb)
  refine PySem.W.callWith_KW0 (h₀ := X.base) I.ok.mod.kin kC hall ?_ hpl
  refine thn ((pk_cons he pk_nil).run pos pins s σ H (fun vs H1 => match vs with | [v] => ∀ a d, H1 a = none → H1 d = none → d ≠ a → Q (.ref a) (upd (upd H1 d (exd d [(p, v)])) a (exo a C (some d))) | _ => False) I h) fun ws s1 ⟨zs, H1, I1, rz, q⟩ => ⟨I1.kIn, ?_⟩
  rw [hks]
  cases rz with
  | nil => exact False.elim q
  | cons r1 r2 =>
    cases r2 with
    | nil => exact err_new T ms hr I1 r1 q [] _ (.inr ⟨rfl, rfl⟩)
    | cons _ _ => exact False.elim q
/-- an error stands at a: with no dict, or with one of its own -/
def ExAt (H : Hp) (a C : Addr) : Prop := H a = some (ExO (.ref C) a) ∨ ∃ d fs, H a = some (exo a C (some d)) ∧ H d = some (exd d fs)
/-- what a class of errors must say so that isinstance asks rightly -/
structure Isi (K : PySem.W.Frag) (C : Addr) : Prop where
  cl : (PySem.W.clsIn K C).isSome = true
  ga : PySem.W.findIn K (.ref C) "__getattribute__" = some (some (.builtin "BaseException.__getattribute__"))
  gt : PySem.W.findIn K (.ref C) "__getattr__" = some none
  sb : PySem.W.subIn K (.ref C) (.type "BaseException") = some true
  ca : PySem.W.findIn K (.ref C) "__class__" = some (some (.builtin "object.__class__"))
  gs : PySem.W.specialIn K (.builtin "object.__class__") "__get__" = some (some (.builtin "getset_descriptor.__get__"))
  tk : PySem.W.takesIn K (.builtin "object.__class__") = some true
  ob : PySem.W.mroIn K C (.type "object") = some true
  hd : PySem.W.hasDictIn K C = true
theorem ExAt.inst {pins : List (Addr × Obj)} {σ : L2.St} {H : Hp} {s : Shared} {a : Addr} (I : Inv X pins σ H s) (h : ExAt H a C) : ∃ ox od, PySem.W.InstAt s.heap a ox C od := by
  rcases h with h | ⟨d, fs, h, hd⟩
  · obtain ⟨⟨oe, vs, e1, z, e2, _⟩, _, _⟩ := I.hok _ _ h
    refine ⟨oe, none, e1, z.1, ?_, ?_⟩
    · unfold PySem.W.notCls
      rw [e2]
    · rw [z.2]
      exact trivial
  · obtain ⟨t1, ho⟩ := exo_at I.hok h
    obtain ⟨mA, hns, hr⟩ := exd_at I.hok hd
    obtain ⟨od, es, ep, hod, _⟩ := hns
    exact ⟨_, some od, ho, rfl, rfl, hod⟩
def rIsx (K : PySem.W.Frag) : List V → Hp → VK → Prop := fun xs H Q => ∃ (a C : Addr) (c : V) (cv : Value) (b : Bool), xs = [.ref a, c] ∧ ExAt H a C ∧ Isi K C ∧ ClsV c cv ∧ PySem.W.kitOne K (.ref C) cv = some b ∧ Q (.bl b) H
theorem call_isx : CallR X (.builtin "isinstance") (rIsx X.K) := by
  intro pins s σ H xs us Q I r h
  obtain ⟨a, C, c, cv, b, rfl, hx, T, hcv, e, q⟩ := h
  obtain ⟨ox, od, J⟩ := hx.inst I
  cases r with
  | cons rx rr =>
    cases rr with
    | cons rt rr =>
      cases rr
      cases rx
      have ec := hcv.eq rt
      subst ec
      exact PySem.W.kia_one (PySem.W.kitx_exc T.cl T.ga T.gt T.sb T.ca T.gs T.tk T.ob) I.kIn J e (fun z => nomatch z) fun tk => ⟨.bl b, H, I.kept (t' := tk) fun _ _ z => z, rfl, q⟩
/-- e.n of an error -/
def tAtt (K : PySem.W.Frag) (n : Str) (te : TE) : TE := fun σ H Q => te σ H fun x H1 => ∃ (a C d : Addr) (fs : List (Str × V)) (v : V), x = .ref a ∧ H1 a = some (exo a C (some d)) ∧ H1 d = some (exd d fs) ∧ Isi K C ∧ PySem.W.findIn K (.ref C) n = some none ∧ fs.lookup n = some v ∧ Q v H1
theorem pe_att {n : Str} (he : PE X e te) (hb : attributeBase e n X.env (eval e X.env) = eval e X.env := by rfl) : PE X (.Attribute e n pos) (tAtt X.K n te) := by
  refine ⟨fun pins s σ H Q I h => ?_⟩
  refine attr_of hb (thn (he.run pins s σ H _ I h) fun u s1 ⟨x, H1, I1, rx, a, C, d, fs, v, ex, ea, ed, T, no, l, q⟩ => ?_)
  subst ex
  obtain rfl : u = Value.ref a := rx
  obtain ⟨t1, ho⟩ := exo_at I1.hok ea
  obtain ⟨mA, hns, hr⟩ := exd_at I1.hok ed
  obtain ⟨od, hod, hl⟩ := lookIn_ns hns
  obtain ⟨u, hu, ru⟩ := RelO.some_of (v := v) (o := mA n) (by rw [← l]; exact hr n)
  have J : PySem.W.InstAt s1.heap a _ C (some od) := ⟨ho, rfl, rfl, hod⟩
  exact HandSPX.exc_get I1.kIn J T.ga T.gt T.sb (PySem.W.findObj_own T.hd no rfl (by rw [hl, hu])) (handed_of ru) ⟨v, H1, I1.tok _, ru, q⟩
end
end Err
-- part Rs
set_option maxHeartbeats 4000000
/-! Errors with an attribute, raised. -/
namespace Err
open PySem PySem.Spec PyProof.Rows L2 NdefX
section
variable {X : Cx} {C : Addr} {p x : Str} {e : Expr} {te : TE} {cp pos : Pos}
/-- the making of an error that is raised: class C, a new dict with the one attribute -/
def tRs (C : Addr) (p : Str) (te : TE) : L2.St → Hp → XK → Prop := fun σ H Q => te σ H fun v H1 => ∀ d, H1 d = none → Q (.ref C) (some d) (upd H1 d (.xd [(p, v)]))
theorem raises_of (T : One X.prog X.K C p) : Raises X (.ref C) := by
  obtain ⟨fI, cc, cd, st, qual, msg, q1, q2, q3, q4, q5, q6, q7, q8, q9, q10, pl, M, _⟩ := T.ex
  exact raises_own M.T.exC M.T.tyC
theorem pmk_err (T : One X.prog X.K C p) (ms : X.mg "super" = none) (hr : Room 1 X.A) (hg : Gl X x) (hm : X.mg x = some (.ref C)) (kC : PySem.W.keepIn X.K (.ref C) = true) (he : PE X e te)
    (hs : starEach [e] X.env = (false, eval e X.env) :: starEach [] X.env := by rfl) (hdb : (x == ("__debug__" : Str)) = false := by decide) : PMk X (.Call (.Name x cp) [e] [] pos) (tRs C p te) := by
  intro pins s σ H Q I h
  refine wpAny_Call_Name_kw (ld_glob I hg hm ?_ hdb)
  refine PySem.W.callWith_K (h₀ := X.base) I.ok.mod.kin kC ?_ hs (by rfl)
  rw [hs]
  show wpAny _ _ (spliced ((false, eval e X.env) :: backTo pos (starEach [] X.env))) _ _ s
  refine Calls.spliced_cons (thn (he.run pins s σ H _ I h) fun u s1 ⟨v, H1, I1, ru, q1⟩ => ?_)
  refine Calls.spliced_nil ⟨I1.kIn, ?_⟩
  obtain ⟨fI, cc, cd, st, qual, msg, p1, p2, p3, p4, p5, p6, p7, p8, p9, p10, pl, M, S, hb, hev, hks, hpa, hpd, hpc, hsw, b1, b2⟩ := T.ex
  obtain ⟨nm, q, N, bs, bm, sn, sub, ab, col, dd, k0, k1, k2, k3, k5, hC, hbm⟩ := M.T.cls
  obtain ⟨hp, g, dr, tk, os⟩ := s1
  have hsz : hp.objs.size ≤ hp.objs.size + 1 := Nat.le_succ _
  have hn : H1 (hp.objs.size + 1) = none := I1.hok.fresh hsz
  have kk : ∀ b o, hp.get? b = some o → ((hp.push (PySem.W.kdv_tup [u])).push (PySem.HandSPX.excO C hp.objs.size)).get? b = some o := fun b o z => Heap.get?_push_of_some _ (Heap.get?_push_of_some _ z)
  have hget : ((hp.push (PySem.W.kdv_tup [u])).push (PySem.HandSPX.excO C hp.objs.size)).get? (hp.objs.size + 1) = some (PySem.HandSPX.excO C hp.objs.size) := by heap_get
  have I2 : Inv X pins σ (upd H1 (hp.objs.size + 1) (exo (hp.objs.size + 1) C none)) ⟨(hp.push (PySem.W.kdv_tup [u])).push (PySem.HandSPX.excO C hp.objs.size), g, dr, tk, os⟩ :=
    I1.laid (t' := tk) (a := hp.objs.size + 1) (o := exo (hp.objs.size + 1) C none) (h' := (hp.push (PySem.W.kdv_tup [u])).push (PySem.HandSPX.excO C hp.objs.size)) kk hsz (exo_ok hget)
  have hT := fun Y => PySem.HandSPX.refsVE_contains Y bm hbm
  have last : ∀ d, upd H1 (hp.objs.size + 1) (exo (hp.objs.size + 1) C none) d = none → d ≠ hp.objs.size + 1 →
      V.non = V.non ∧ ∃ d', upd (upd (upd H1 (hp.objs.size + 1) (exo (hp.objs.size + 1) C none)) d (exd d [(p, v)])) (hp.objs.size + 1) (exo (hp.objs.size + 1) C (some d)) = upd (upd (upd H1 (hp.objs.size + 1) (exo (hp.objs.size + 1) C none)) d' (exd d' [(p, v)])) (hp.objs.size + 1) (exo (hp.objs.size + 1) C (some d')) ∧ H1 d' = none ∧ d' ≠ hp.objs.size + 1 := fun d nd ne => by
    rw [upd_ne ne] at nd
    exact ⟨rfl, d, rfl, nd, ne⟩
  refine wpAny_call (PySem.HandSPX.call_own F.excBase_ValueError hT (I1.kIn _ _ hC) (PySem.W.looks_findIn I1.kIn M.iC) (fun self => PySem.W.bind_fn I1.kIn self M.tI) (by show 1 ≤ sizeLine; decide)
      (codeAny_mono (init_code (E := fun _ _ _ => False) (Q := fun v' H' => v' = V.non ∧ ∃ d', H' = upd (upd (upd H1 (hp.objs.size + 1) (exo (hp.objs.size + 1) C none)) d' (exd d' [(p, v)])) (hp.objs.size + 1) (exo (hp.objs.size + 1) C (some d')) ∧ H1 d' = none ∧ d' ≠ hp.objs.size + 1)
        M S hb hev hks hpa hpd hpc hsw ms (hr.make C [u] []) (I2.env0.make C [u] []) upd_same ru (fun kV doc pm an ct => .of_eq (b1 _ _ _ _ _ _ _)) last) fun r s' hq' => ?_))
  cases r with
  | error er => exact False.elim hq'
  | ok fl =>
    cases fl with
    | ret w' =>
      obtain ⟨v', H2, os2, bare2, un2, hok2, rv, ev, d, eH, hd1, hda⟩ := hq'
      subst ev
      subst eH
      obtain ⟨h2, g2, d2, t2, os'⟩ := s'
      have ed : (upd (upd (upd H1 (hp.objs.size + 1) (exo (hp.objs.size + 1) C none)) d (exd d [(p, v)])) (hp.objs.size + 1) (exo (hp.objs.size + 1) C (some d))) d = some (exd d [(p, v)]) := by rw [upd_ne hda, upd_same]
      refine ⟨rv, mk_end (raises_own M.T.exC M.T.tyC) I1 hsz kk un2 hok2 os2 bare2 upd_same ed hd1 ?_⟩
      have eq : upd (del (upd (upd (upd H1 (hp.objs.size + 1) (exo (hp.objs.size + 1) C none)) d (exd d [(p, v)])) (hp.objs.size + 1) (exo (hp.objs.size + 1) C (some d))) (hp.objs.size + 1)) d (.xd [(p, v)]) = upd H1 d (.xd [(p, v)]) := by
        funext b
        by_cases e1 : b = d
        · rw [e1, upd_same, upd_same]
        · rw [upd_ne e1, upd_ne e1]
          by_cases e2 : b = hp.objs.size + 1
          · rw [e2, del_same, hn]
          · rw [del_ne e2, upd_ne e2, upd_ne e1, upd_ne e2]
      rw [eq]
      exact q1 d hd1
    | next => exact False.elim hq'
    | brk => exact False.elim hq'
    | cont => exact False.elim hq'
end
end Err
-- part Kp
set_option maxHeartbeats 4000000
/-! A caught error that outlives its suite. -/
namespace Err
open PySem PySem.Spec PyProof.Rows L2 NdefX
/-- an error that was caught: of the class cls, its dict d -/
def exq (a : Addr) (cls : Value) (d : Option Addr) : HO := .ext fun h => ∃ (oe : Obj) (vs : Array Value), h.get? a = some oe ∧ Zc cls d oe ∧ oe.data = .fields vs
theorem exq_ok {P : Program} {w : World} {H : Hp} {h : Heap} {a : Addr} {cls : Value} {d : Option Addr} {oe : Obj} (e : h.get? a = some oe) (z : Zc cls d oe) (f : ∃ vs, oe.data = .fields vs) : ObjOk P w H h a (exq a cls d) := by
  obtain ⟨vs, f⟩ := f
  exact ⟨⟨oe, vs, e, z, f⟩, ⟨oe, e⟩, fun h1 h2 ⟨o, us, e1, z1, f1⟩ st => ⟨o, us, st o e1, z1, f1⟩⟩
section
variable {X : Cx} {pins : List (Addr × Obj)} {σ : L2.St} {H : Hp} {s : Shared}
/-- what was pinned is tracked from here on -/
theorem track {a : Addr} {oe : Obj} {o : HO} (I : L2.Inv X ((a, oe) :: pins) σ H s) (n0 : X.s_0.heap.get? a = none) (np : ∀ p ∈ X.pn ++ pins, p.1 ≠ a) (new : ObjOk X.prog X.w (upd H a o) s.heap a o) : L2.Inv X pins σ (upd H a o) s := by
  obtain ⟨_, hn, hL, hF, hcell⟩ := I.pin (a, oe) (by simp)
  have ha := (I.pin (a, oe) (by simp)).1
  have fresh : ∀ b u, X.s_0.heap.get? b = some u → b ≠ a := fun b u e z => by rw [z, n0] at e; cases e
  constructor
  · exact I.ok
  · exact I.os
  · exact I.bare
  · constructor
    · exact I.base.keep
    · exact I.base.slot
    · intro b u e n x
      rw [upd_ne (fresh b u e)]
      exact I.base.free b u e n x
    · exact I.base.there
    · intro b xs e
      have z := I.base.tups b xs e
      rw [upd_ne (ne_of_none z hn)]
      exact z
    · intro b u v e
      have z := I.base.frzs b u v e
      rw [upd_ne (ne_of_none z hn)]
      exact z
    · intro b ps e
      obtain ⟨m, z⟩ := I.base.tbls b ps e
      exact ⟨m, by rw [upd_ne (ne_of_none z hn)]; exact z⟩
  · exact I.loc
  · exact I.cell
  · rw [upd_ne (Ne.symm hL)]
    exact I.free
  · intro x c e
    have z : c ≠ a := fun z => by
      obtain ⟨v, o', ho, hd⟩ := I.cell x c e
      rw [z, ha] at ho
      cases ho
      exact hcell v hd
    rw [upd_ne z]
    exact I.freeC x c e
  · intro p hp
    have q : p ∈ X.pn ++ (a, oe) :: pins := by
      rcases List.mem_append.mp hp with y | y
      · exact List.mem_append_left _ y
      · exact List.mem_append_right _ (List.mem_cons_of_mem _ y)
    obtain ⟨e1, e2, e3⟩ := I.pin p q
    exact ⟨e1, by rw [upd_ne (np p hp)]; exact e2, e3⟩
  · exact I.hok.laidN (fun _ _ e => e) hn new
  · exact I.len
/-- in flight: all that a suite and what comes behind it must know of the error -/
theorem flown {B : Heap} {a : Addr} {cls : Value} {d : Option Addr} {sI sN : Shared} {h : Heap} (J : L2.Inv X pins σ H sI) (ground : ∀ b o, sI.heap.get? b = some o → b ∉ frs X.stack → B.get? b = some o) (hs : X.stack = X.env :: X.outer)
    (hf : X.env.frame = some X.env.locals) (hx : X.ex = []) (fl : PySem.HandSPX.FlyingZ B (X.env :: X.outer) a (Zc cls d) h) (up : sI.heap.UpToSlots h) (os : sN.os = sI.os) (ag : AllBare sN.gens) (na : H a = none) :
    ∃ oe : Obj, (∃ vs, oe.data = .fields vs) ∧ Zc cls d oe ∧ h.get? a = some oe ∧ L2.Inv (X.suite a ((a, oe) :: (X.pn ++ pins))) [] σ H { sN with heap := h } ∧ X.s_0.heap.get? a = none ∧ (∀ p ∈ X.pn ++ pins, p.1 ≠ a) ∧ L2.Inv X pins σ H { sN with heap := h } := by
  obtain ⟨oe, vs, ho, hz, hd⟩ := fl.there
  have out : a ∉ frs (X.env :: X.outer) := fun m => by
    obtain ⟨_, o2, e2, hne⟩ := fl.2.2.1.mem m
    rw [ho] at e2
    exact hne vs (by cases e2; exact hd)
  have gone : sI.heap.get? a = none := by
    cases e : sI.heap.get? a with
    | none => rfl
    | some o =>
      have z := ground a o e (by rw [hs]; exact out)
      rw [fl.2.1] at z
      cases z
  have K : L2.Inv X pins σ H { sN with heap := h } := J.landed ground fl.1 up os ag
  refine ⟨oe, ⟨vs, hd⟩, hz, ho, K.suite ho hd na (fun z => out ?_) (fun m => out ?_), ?_, fun p hp z => ?_, K⟩
  · exact List.mem_filterMap.mpr ⟨X.env, List.mem_cons_self, by rw [hf, z]⟩
  · obtain ⟨e, he, q⟩ := List.mem_filterMap.mp m
    exact List.mem_filterMap.mpr ⟨e, List.mem_cons_of_mem _ he, q⟩
  · cases e : X.s_0.heap.get? a with
    | none => rfl
    | some o =>
      obtain ⟨o2, e2⟩ := J.base.there a o e (by rw [hx]; exact fun z => nomatch z)
      rw [gone] at e2
      cases e2
  · have e := (J.pin p hp).1
    rw [z, gone] at e
    cases e
end
/-- try: body, except x as n: suite, where all that the body raises is of the class c: what was caught stands on, tracked -/
def wKp (K : PySem.W.Frag) (c : Value) (i : Nat) (ts : Addr → Value → Option Addr → TS) (D : Ends) : WX := fun cls d σ H =>
  PySem.W.exmOne K cls c = some true ∧ ∀ a, H a = none → ts a cls d { nx := fun σ' H' => H' a = none → D.nx (σ'.set i none) (upd H' a (exq a cls d)), rt := fun _ _ => False, bk := fun _ _ => False, ct := fun _ _ => False } (σ.set i (some (.ref a))) H
section
variable {X : Cx} {x n : Str} {c : Value} {i : Nat} {body suite : List Stmt} {b₀ : Stmt} {np pos pos' : Pos} {tb : WX → TS} {ts : Addr → Value → Option Addr → TS}
theorem ps_keep (hs : X.stack = X.env :: X.outer) (hf : X.env.frame = some X.env.locals) (hx : X.ex = []) (hN : X.N.Nodup) (hi : X.N[i]? = some n) (hln : X.env.kindOf n = some .local) (hc : Names X x c)
    (hb : ∀ (W : WX) (pn : List (Addr × Obj)) (xe : Value → Shared → Prop), Takes (X.tr pn xe) W → PassesOwn (model X.prog X.w) X.A X.env xe → PSs (X.tr pn xe) body (tb W))
    (hsu : ∀ (a : Addr) (oe : Obj) (cls : Value) (d : Option Addr) (pn : List (Addr × Obj)), Zc cls d oe → (∃ vs, oe.data = .fields vs) → PSs (X.suite a ((a, oe) :: pn)) (b₀ :: suite) (ts a cls d)) :
    PS X (.Try body [.ExceptHandler (some (.Name x np)) (some n) (b₀ :: suite) pos'] [] [] pos) (fun D σ H => tb (wKp X.K c i ts D) D σ H) := by
  constructor
  intro pins s σ H D I h
  have good := I.ok
  have top : X.A.frames = some (X.env :: X.outer) := by rw [good.frames, hs]
  refine wpAny_Try_except ?_
  refine wpAny_mono ((hb (wKp X.K c i ts D) (X.pn ++ pins) (fun e s₁ => wpAny (model X.prog X.w) X.A (noteFrame e X.env) (fun _ s₂ => wpAny (model X.prog X.w) X.A (setFlight e none) (fun _ s₃ =>
    wpAny (model X.prog X.w) X.A (handleBy e X.env [.ExceptHandler (some (.Name x np)) (some n) (b₀ :: suite) pos']) (SP X pins D) X.xe s₃) X.xe s₂) X.xe s₁) ?held PassesOwn.looking).run [] s σ H D (I.toTry _) h) ?plain fun _ _ z => z
  case plain =>
    intro f s1 end_
    cases f with
    | ret u =>
      obtain ⟨v, σ', H', K, r, q⟩ := end_
      exact ⟨v, σ', H', K.ofTry good, r, q⟩
    | next =>
      obtain ⟨σ', H', K, q⟩ := end_
      exact wpAny_execs_nil ⟨σ', H', K.ofTry good, q⟩
    | cont =>
      obtain ⟨σ', H', K, q⟩ := end_
      exact ⟨σ', H', K.ofTry good, q⟩
    | brk =>
      obtain ⟨σ', H', K, q⟩ := end_
      exact ⟨σ', H', K.ofTry good, q⟩
  case held =>
    rintro u sN ⟨a, B, sI, pins2, σ2, H2, cls, d, rfl, J, ground, up, sky, na, os, ag, match_, go⟩
    have J := J.ofTry good
    have sky : Sky B (X.env :: X.outer) a (Zc cls d) X.env.locals sN.heap := by rw [← hs]; exact sky
    refine Sky.land Zc.steady top hf sky fun h3 fl3 up3 => ?_
    obtain ⟨oe3, fd3, z3, at3, S3, _, _, K3⟩ := flown J ground hs hf hx fl3 (up.trans up3) os ag na
    refine wpAny_handleBy_cons (codeAny_handlers_test ?_) (by intro q; cases q)
    have cl : PySem.W.Looks (model X.prog X.w) h3 (typeOf (.ref a)) cls := fun A Q E s k q => wpAny_typeOf_ref (k _ _ at3) (by rw [z3.1]; exact q)
    have asked : ∀ {Q : Value → Shared → Prop} {E : Value → Shared → Prop}, Q c { sN with heap := h3 } → wpAny (model X.prog X.w) (X.A.mark (some (.ref a))) (eval (.Name x np) X.env) Q E { sN with heap := h3 } := by
      intro Q E q
      obtain ⟨hg, hdbg, hm⟩ := hc
      rcases hm with hm | ⟨hm, hv, hnn⟩
      · exact ld_glob (X := X.suite a ((a, oe3) :: (X.pn ++ pins))) S3 hg hm q hdbg
      · exact ld_blt (X := X.suite a ((a, oe3) :: (X.pn ++ pins))) S3 hg hm hv q hnn hdbg
    refine asked ((PySem.W.exm_one (M := model X.prog X.w) K3.kIn cl match_).here (codeAny_handlers_suite_as (PySem.HandSPX.lands_againZ fl3 fun h4 fl4 up4 => ?_)))
    obtain ⟨oe4, fd4, z4, at4, S4, new4, other4, _⟩ := flown J ground hs hf hx fl4 ((up.trans up3).trans up4) os ag na
    refine store_ok (X := X.suite a ((a, oe4) :: (X.pn ++ pins))) (v := .ref a) S4 hN hi (.inl hln) rfl (fun s5 S5 => ?_) (.inr hln)
    refine wpAny_mono ((hsu a oe4 cls d (X.pn ++ pins) z4 fd4).run [] s5 _ H2 _ S5 (go a na)) ?_ fun _ _ z => z.elim
    intro f s6 end_
    cases f with
    | brk =>
      obtain ⟨_, _, _, z⟩ := end_
      exact z.elim
    | cont =>
      obtain ⟨_, _, _, z⟩ := end_
      exact z.elim
    | ret u =>
      obtain ⟨_, _, _, _, _, z⟩ := end_
      exact z.elim
    | next =>
      obtain ⟨σ6, H6, S6, q6⟩ := end_
      have pinned : L2.Inv X ((a, oe4) :: pins) σ6 H6 s6 := by
        refine ⟨good, S6.os, S6.bare, S6.base, S6.loc, S6.cell, S6.free, S6.freeC, fun p hp => S6.pin p ?_, S6.hok, S6.len⟩
        rw [List.append_nil]
        rcases List.mem_append.mp hp with y | y
        · exact List.mem_cons_of_mem _ (List.mem_append_left _ y)
        · rcases List.mem_cons.mp y with y | y
          · rw [y]; exact List.mem_cons_self
          · exact List.mem_cons_of_mem _ (List.mem_append_right _ y)
      refine gone_ok pinned hN hi hln fun s7 S7 => ?_
      have p7 := S7.pin (a, oe4) (by simp)
      exact ⟨_, _, track S7 new4 other4 (exq_ok p7.1 z4 fd4), q6 p7.2.1⟩
end
end Err
-- part Cq
set_option maxHeartbeats 4000000
/-! A caught error: asked by isinstance, its attribute read. -/
namespace Err
open PySem PySem.Spec PyProof.Rows L2 NdefX
/-- at a a caught error of the class at C, with attributes -/
def QAt (H : Hp) (a C : Addr) (fs : List (Str × V)) : Prop := ∃ d, H a = some (exq a (.ref C) (some d)) ∧ H d = some (.xd fs)
theorem QAt.same {H H' : Hp} {a C : Addr} {fs : List (Str × V)} (h : QAt H a C fs) (s : ∀ b o, H b = some o → H' b = some o) : QAt H' a C fs := by
  obtain ⟨d, e1, e2⟩ := h
  exact ⟨d, s _ _ e1, s _ _ e2⟩
section
variable {X : Cx} {e : Expr} {te : TE} {pos : Pos}
theorem QAt.inst {pins : List (Addr × Obj)} {σ : L2.St} {H : Hp} {s : Shared} {a C : Addr} {fs : List (Str × V)} (I : L2.Inv X pins σ H s) (h : QAt H a C fs) :
    ∃ (ox od : Obj) (mA : Str → Option Value), PySem.W.InstAt s.heap a ox C (some od) ∧ (∀ n, PySem.W.lookIn n od = some (mA n)) ∧ ∀ n, RelO (fs.lookup n) (mA n) := by
  obtain ⟨d, e1, e2⟩ := h
  obtain ⟨⟨oe, vs, ho, z, hd⟩, _, _⟩ := I.hok _ _ e1
  obtain ⟨mA, hns, hr⟩ : ∃ mA, s.heap.Ns1 d mA ∧ ∀ f, RelO (fs.lookup f) (mA f) := I.hok _ _ e2
  obtain ⟨od, hod, hl⟩ := lookIn_ns hns
  refine ⟨oe, od, mA, ⟨ho, z.1, ?_, ?_⟩, hl, hr⟩
  · unfold PySem.W.notCls
    rw [hd]
  · rw [z.2]
    exact hod
def rIsq (K : PySem.W.Frag) : List V → Hp → VK → Prop := fun xs H Q => ∃ (a C : Addr) (fs : List (Str × V)) (c : V) (cv : Value) (b : Bool), xs = [.ref a, c] ∧ QAt H a C fs ∧ Isi K C ∧ ClsV c cv ∧ PySem.W.kitOne K (.ref C) cv = some b ∧ Q (.bl b) H
theorem call_isq : CallR X (.builtin "isinstance") (rIsq X.K) := by
  rintro pins s σ H xs us Q I r ⟨a, C, fs, c, cv, b, rfl, hx, T, hcv, e, q⟩
  obtain ⟨ox, od, mA, J, _, _⟩ := hx.inst I
  cases r with
  | cons rx rs =>
    cases rs with
    | cons rt rn =>
      cases rn
      cases rx
      cases hcv.eq rt
      exact PySem.W.kia_one (PySem.W.kitx_exc T.cl T.ga T.gt T.sb T.ca T.gs T.tk T.ob) I.kIn J e (fun z => nomatch z) fun tk => ⟨.bl b, H, I.kept (t' := tk) fun _ _ z => z, rfl, q⟩
def tAttq (K : PySem.W.Frag) (n : Str) (te : TE) : TE := fun σ H Q => te σ H fun x H1 => ∃ (a C : Addr) (fs : List (Str × V)) (v : V), x = .ref a ∧ QAt H1 a C fs ∧ Isi K C ∧ PySem.W.findIn K (.ref C) n = some none ∧ fs.lookup n = some v ∧ Q v H1
theorem pe_attq {n : Str} (he : PE X e te) (hb : attributeBase e n X.env (eval e X.env) = eval e X.env := by rfl) : PE X (.Attribute e n pos) (tAttq X.K n te) := by
  constructor
  intro pins s σ H Q I h
  refine attr_of hb (thn (he.run pins s σ H _ I h) ?_)
  rintro u s1 ⟨x, H1, I1, rx, a, C, fs, v, ex, hx, T, no, l, q⟩
  subst ex
  obtain rfl : u = Value.ref a := rx
  obtain ⟨ox, od, mA, J, hl, hr⟩ := hx.inst I1
  obtain ⟨w, hw, rw'⟩ := RelO.some_of (v := v) (o := mA n) (by rw [← l]; exact hr n)
  exact PySem.HandSPX.exc_get I1.kIn J T.ga T.gt T.sb (PySem.W.findObj_own T.hd no rfl (by rw [hl n, hw])) (handed_of rw') ⟨v, H1, I1.tok _, rw', q⟩
end
end Err
-- part Cg
set_option maxHeartbeats 4000000
/-! The law's def that calls a lambda and gives back the error that it raises. -/
namespace Err
open PySem PySem.Spec PyProof.Rows L2 NdefX LamX
theorem takes_len {X : Cx} {W : WX} (t : Takes X W) : Takes X (fun cls d σ H => σ.length = X.N.length → W cls d σ H) := by
  rintro u s' ⟨a, B, sI, pins, σ, H, cls, d, e1, I, r1, r2, r3, r4, r5, r6, w⟩
  exact t u s' ⟨a, B, sI, pins, σ, H, cls, d, e1, I, r1, r2, r3, r4, r5, r6, w I.len⟩
/-- what becomes of a lambda: its error, or None -/
def TCaught (K : PySem.W.Frag) (CS : Addr) : (XK → Hp → VK → Prop) → Hp → VK → Prop := fun tl H Q =>
  tl (fun cls d H' => PySem.W.exmOne K cls (.ref CS) = some true ∧ ∀ a, H' a = none → Q (.ref a) (upd H' a (exq a cls d))) H fun _ H' => ∃ v, (some (some V.non) : Option (Option V)) = some (some v) ∧ Q v H'
abbrev NCa : List Str := ["_law_work", "_law_caught_here", "_law_error"]
abbrev sCaught : Stmt := Kn.topS 38
theorem scCa : FnScope NCa ["_law_work"] (defScope sCaught) := ⟨rfl, rfl, rfl, by decide +kernel, rfl, by decide +kernel, by decide +kernel⟩
theorem caught_gives {X : Cx} {q : Str} {g CS : Addr} {cdg : Value} (hme : X.mg "StillError" = some (.ref CS)) : GivesTo X NCa "_law_caught" (defScope sCaught) g cdg (defBody sCaught) "_law_work" q (TCaught X.K CS) := by
  intro f c' s H Q tl act hc h
  refine ⟨_, pss_cons (ps_set (i := 1) scCa.nd rfl (.inl rfl) pe_non)
    (pss_cons (ps_keep (X := (cxOf C8.CX0 X.prog X.w X.K X.mg X.base NCa "_law_caught" (defScope sCaught) g cdg X.A X.stack s H C8.E0).nox) (i := 2) (c := .ref CS)
      (tb := fun W D σ H => ∃ Ech : XK, (∀ cls d σ' H', σ'.length = 3 → Ech cls d H' → W cls d σ' H') ∧ σ[0]? = some (some (.ref f)) ∧ H c' = some (CodeO c' q) ∧ tl Ech H fun _ H' => D.nx σ H')
      rfl rfl rfl scCa.nd rfl rfl ⟨rfl, rfl, .inl hme⟩ (fun W pn xe tk _ => ?_) (fun a oe cls d pn _ _ => pss_one (ps_set (i := 1) scCa.nd rfl (.inl rfl) (pv 2))))
    (pss_one (ps_ret (pv 1)))), ?_⟩
  · constructor
    rintro pins s' σ H' D I ⟨Ech, hW, h1, h2, h3⟩
    exact (pss_one (ps_expr (act (fun cls d σ H => σ.length = 3 → W cls d σ H) pn xe Ech _ _ (takes_len tk) fun cls d σ' H' e hl => hW cls d σ' H' hl e))).run pins s' σ H' D I ⟨h1, h2, h3⟩
  · refine ⟨fun cls d H' => PySem.W.exmOne X.K cls (.ref CS) = some true ∧ ∀ a, H' a = none → Q (.ref a) (upd H' a (exq a cls d)), fun cls d σ' H' hl z => ?_, rfl, hc, h⟩
    obtain ⟨x, y, w, rfl⟩ : ∃ x y w, σ' = [x, y, w] := by
      match σ', hl with
      | [x, y, w], _ => exact ⟨x, y, w, rfl⟩
    exact ⟨z.1, fun a na => ⟨_, rfl, fun na' => ⟨_, rfl, z.2 a na⟩⟩⟩
end Err
-- part TErr
set_option maxHeartbeats 4000000
/-! Errors without attributes: raised, kept, asked by isinstance; check_tuples, check_count, checks_of. -/
namespace Kn
open PySem PySem.Spec PyProof.Rows L2 Err
/-- a class of errors of the package, without an __init__ of its own -/
structure EC (K : PySem.W.Frag) (mg : Str → Option Value) (CS : Addr) (x : Str) (C : Addr) : Prop where
  glob : mg x = some (.ref C)
  kp : PySem.W.keepIn K (.ref C) = true
  ex : PySem.W.excIn K C [.type "ValueError", .type "Exception", .type "BaseException", .type "object"] "ValueError.__new__" = true
  sb : PySem.W.subIn K (.ref C) (.type "BaseException") = some true
  ty : PySem.W.typeIn K (.ref C) = some (.type "type")
  is : Isi K C
  xm : PySem.W.exmOne K (.ref C) (.ref CS) = some true
/-- at a a caught error of the class at C, without a dict -/
def QA0 (H : Hp) (a C : Addr) : Prop := H a = some (exq a (.ref C) none)
section
variable {X : Cx}
theorem QA0.inst {pins : List (Addr × Obj)} {σ : L2.St} {H : Hp} {s : Shared} {a C : Addr} (I : L2.Inv X pins σ H s) (h : QA0 H a C) : ∃ ox : Obj, PySem.W.InstAt s.heap a ox C none := by
  obtain ⟨⟨oe, vs, ho, z, hd⟩, _, _⟩ := I.hok _ _ h
  refine ⟨oe, ⟨ho, z.1, ?_, ?_⟩⟩
  · unfold PySem.W.notCls
    rw [hd]
  · rw [z.2]
    trivial
def rIs0 (K : PySem.W.Frag) : List V → Hp → VK → Prop := fun xs H Q => ∃ (a C : Addr) (c : V) (cv : Value) (b : Bool), xs = [.ref a, c] ∧ QA0 H a C ∧ Isi K C ∧ ClsV c cv ∧ PySem.W.kitOne K (.ref C) cv = some b ∧ Q (.bl b) H
theorem call_is0 : CallR X (.builtin "isinstance") (rIs0 X.K) := by
  rintro pins s σ H xs us Q I r ⟨a, C, c, cv, b, rfl, hx, T, hcv, e, q⟩
  obtain ⟨ox, J⟩ := hx.inst I
  cases r with
  | cons rx rs =>
    cases rs with
    | cons rt rn =>
      cases rn
      cases rx
      cases hcv.eq rt
      exact PySem.W.kia_one (PySem.W.kitx_exc T.cl T.ga T.gt T.sb T.ca T.gs T.tk T.ob) I.kIn J e (fun z => nomatch z) fun tk => ⟨.bl b, H, I.kept (t' := tk) fun _ _ z => z, rfl, q⟩
end
end Kn
-- part TOf
set_option maxHeartbeats 4000000
/-! check_tuples, check_count, checks_of. -/
namespace Kn
open PySem PySem.Spec PyProof.Rows L2 Err
abbrev sCheckT : Stmt := topS 28
abbrev sCheckC : Stmt := topS 29
abbrev sChecksOf : Stmt := topS 30
theorem scCT : FnScope ["tuples"] ["tuples"] (defScope sCheckT) := ⟨rfl, rfl, rfl, by decide +kernel, rfl, by decide +kernel, by decide +kernel⟩
theorem scCC : FnScope ["count", "most"] ["count", "most"] (defScope sCheckC) := ⟨rfl, rfl, rfl, by decide +kernel, rfl, by decide +kernel, by decide +kernel⟩
theorem scCO : FnScope ["tuples", "count"] ["tuples", "count"] (defScope sChecksOf) := ⟨rfl, rfl, rfl, by decide +kernel, rfl, by decide +kernel, by decide +kernel⟩
def spCheckT (CT : Addr) : Sp := fun vs H Q E => ∃ v w, vs = [v] ∧ Is H v w ∧ NF H v ∧ ((tuplesW w = false ∧ ∀ H', Same H H' → E (.ref CT) none H') ∨ (tuplesW w = true ∧ ∀ H', Same H H' → Q .non H'))
def spCheckC (CC : Addr) : Sp := fun vs H Q E => ∃ v w, ∃ n : Int, vs = [v, .int n] ∧ Is H v w ∧ ((withinW 0 n w = false ∧ E (.ref CC) none H) ∨ (withinW 0 n w = true ∧ Q .non H))
def spOf (CT CC : Addr) : Sp := fun vs H Q E => ∃ v u w x, vs = [v, u] ∧ Is H v w ∧ NF H v ∧ Is H u x ∧
  ((tuplesW w = false ∧ ∀ H', Same H H' → E (.ref CT) none H') ∨ (tuplesW w = true ∧ withinW 0 4 x = false ∧ ∀ H', Same H H' → E (.ref CC) none H') ∨
   (tuplesW w = true ∧ ∃ (a : Addr) (n : Nat) (l : Tps) (wd : Nat), v = .ref a ∧ u = .int n ∧ x = .int n ∧ TupD H a l ∧ TOk l wd ∧ n ≤ 4 ∧ ∀ p cs H', Same H H' → H p = none → H' p = some (.lst cs) → RowsL H' cs ((List.range n).map fun k => checkL wd k l) → Q (.ref p) H'))
section
variable {P : Program} {w : World} {K : PySem.W.Frag} {mg : Str → Option Value} {base : Heap}
theorem ok_ct {f f1 CS CT : Addr} {fd fd1 : FuncData} (F : Fun K "check_tuples" "check_tuples" sCheckT f fd) (G1 : FnOk P w K mg base CX0 5 f1 fd1 ["value"] spTuples) (k1 : PySem.W.keepIn K (.ref f1) = true) (b1 : Binds K fd1 ["value"] []) (g1 : mg "are_tuples" = some (.ref f1))
    (T : EC K mg CS "BadTuples" CT) : FnOk P w K mg base (L2.CX P w) 6 f fd ["tuples"] (spCheckT CT) := by
  have S := scCT
  refine F.okX S (fun vs H Q E h => ?_) (fun cdv A outer s H vs Q E hr h => ?_)
  · obtain ⟨v, u, rfl, _⟩ := h
    rfl
  · obtain ⟨v, u, rfl, hv, nf, h⟩ := h
    have tk : Takes (cxOf (L2.CX P w) P w K mg base ["tuples"] "check_tuples" (defScope sCheckT) f cdv A outer s H E) (fun cls d _ H => E cls d H) := takes_of rfl rfl rfl rfl
    refine ⟨_, pss_one (ps_if (pt_not (pt_val (pe_call G1 hr (by rfl) g1 k1 b1 .nil pass0 (pa_cons (pv 0) pa_nil)))) (pss_one (ps_raise rfl tk (SkE.pmk_own1 PySem.F.excBase_ValueError T.ex T.glob T.kp (raises_own T.sb T.ty) (by rfl) pe_str))) pss_nil), ?_⟩
    refine ⟨_, rfl, v, u, rfl, hv, nf, fun H1 s1 => ⟨_, rfl, ?_⟩⟩
    rcases h with ⟨e, h⟩ | ⟨e, h⟩
    · rw [e]
      exact iteT (h H1 s1)
    · rw [e]
      exact iteF (h H1 s1)
theorem ok_cc {f f1 CS CC : Addr} {fd fd1 : FuncData} (F : Fun K "check_count" "check_count" sCheckC f fd) (G1 : FnOk P w K mg base CX0 2 f1 fd1 ["value", "least", "greatest"] spWithin) (k1 : PySem.W.keepIn K (.ref f1) = true) (b1 : Binds K fd1 ["value", "least", "greatest"] []) (g1 : mg "is_within" = some (.ref f1))
    (T : EC K mg CS "BadCount" CC) : FnOk P w K mg base (L2.CX P w) 3 f fd ["count", "most"] (spCheckC CC) := by
  have S := scCC
  refine F.okX S (fun vs H Q E h => ?_) (fun cdv A outer s H vs Q E hr h => ?_)
  · obtain ⟨v, u, n, rfl, _⟩ := h
    rfl
  · obtain ⟨v, u, n, rfl, hv, h⟩ := h
    have tk : Takes (cxOf (L2.CX P w) P w K mg base ["count", "most"] "check_count" (defScope sCheckC) f cdv A outer s H E) (fun cls d _ H => E cls d H) := takes_of rfl rfl rfl rfl
    refine ⟨_, pss_one (ps_if (pt_not (pt_val (pe_call G1 hr (by rfl) g1 k1 b1 .nil pass0 (pa_cons (pv 0) (pa_cons pe_int (pa_cons (pv 1) pa_nil)))))) (pss_one (ps_raise rfl tk (SkE.pmk_own1 PySem.F.excBase_ValueError T.ex T.glob T.kp (raises_own T.sb T.ty) (by rfl) pe_str))) pss_nil), ?_⟩
    refine ⟨_, rfl, _, rfl, v, u, 0, n, rfl, hv, _, rfl, ?_⟩
    rcases h with ⟨e, h⟩ | ⟨e, h⟩
    · rw [e]
      exact iteT h
    · rw [e]
      exact iteF h
theorem ok_of {f f1 f2 f3 CT CC : Addr} {fd fd1 fd2 fd3 : FuncData} (F : Fun K "checks_of" "checks_of" sChecksOf f fd) (G1 : FnOk P w K mg base (L2.CX P w) 6 f1 fd1 ["tuples"] (spCheckT CT)) (k1 : PySem.W.keepIn K (.ref f1) = true) (b1 : Binds K fd1 ["tuples"] []) (g1 : mg "check_tuples" = some (.ref f1))
    (G2 : FnOk P w K mg base (L2.CX P w) 3 f2 fd2 ["count", "most"] (spCheckC CC)) (k2 : PySem.W.keepIn K (.ref f2) = true) (b2 : Binds K fd2 ["count", "most"] []) (g2 : mg "check_count" = some (.ref f2))
    (G3 : FnOk P w K mg base CX0 2 f3 fd3 ["tuples", "count"] spAll) (k3 : PySem.W.keepIn K (.ref f3) = true) (b3 : Binds K fd3 ["tuples", "count"] []) (g3 : mg "all_checks" = some (.ref f3))
    (mc : ∃ u, mg "MOST_CHECKS" = some u ∧ RelV (.int 4) u) : FnOk P w K mg base (L2.CX P w) 7 f fd ["tuples", "count"] (spOf CT CC) := by
  have S := scCO
  refine F.okX S (fun vs H Q E h => ?_) (fun cdv A outer s H vs Q E hr h => ?_)
  · obtain ⟨v, u, x, y, rfl, _⟩ := h
    rfl
  · obtain ⟨v, u, x, y, rfl, hv, nf, hu, h⟩ := h
    have tk : Takes (cxOf (L2.CX P w) P w K mg base ["tuples", "count"] "checks_of" (defScope sChecksOf) f cdv A outer s H E) (fun cls d _ H => E cls d H) := takes_of rfl rfl rfl rfl
    have hr3 := hr.mono (show 3 ≤ 6 by decide)
    have hr2 := hr.mono (show 2 ≤ 6 by decide)
    refine ⟨_, pss_cons (ps_expr (pe_call G1 hr (by rfl) g1 k1 b1 .nil (passes_call tk fun _ _ _ _ h => h) (pa_cons (pv 0) pa_nil)))
      (pss_cons (ps_expr (pe_call G2 hr3 (by rfl) g2 k2 b2 .nil (passes_call tk fun _ _ _ _ h => h) (pa_cons (pv 1) (pa_cons (pe_known (by rfl) mc) pa_nil))))
      (pss_one (ps_ret (pe_call G3 hr2 (by rfl) g3 k3 b3 .nil pass0 (pa_cons (pv 0) (pa_cons (pv 1) pa_nil)))))), ?_⟩
    refine ⟨_, rfl, v, x, rfl, hv, nf, ?_⟩
    rcases h with ⟨e, h⟩ | ⟨e, e2, h⟩ | ⟨e, a, n, l, wd, rfl, rfl, rfl, hT, ok, hn, h⟩
    · exact .inl ⟨e, h⟩
    · exact .inr ⟨e, fun H1 s1 => ⟨_, rfl, u, y, 4, rfl, hu.same s1, .inl ⟨e2, h H1 s1⟩⟩⟩
    · refine .inr ⟨e, fun H1 s1 => ⟨_, rfl, .int n, .int n, 4, rfl, .int _, .inr ⟨?_, ?_⟩⟩⟩
      · show (decide ((0 : Int) ≤ (n : Int)) && decide ((n : Int) ≤ 4)) = true
        rw [decide_eq_true (by omega), decide_eq_true (by omega)]
        rfl
      · exact ⟨_, rfl, _, rfl, a, n, l, wd, rfl, hT.same s1, ok, hn, fun p cs H2 s2 np e r => h p cs H2 (s1.trans s2) (s1.free np) e r⟩
end
end Kn
-- part TAfter
set_option maxHeartbeats 4000000
/-! after_change. -/
namespace Kn
open PySem PySem.Spec PyProof.Rows L2 Err
abbrev sAfter : Stmt := topS 31
abbrev NAf : List Str := ["checks", "seat", "before", "later", "there", "out", "power", "check", "share", "row"]
theorem scAf : FnScope NAf ["checks", "seat", "before", "later"] (defScope sAfter) := ⟨rfl, rfl, rfl, by decide +kernel, rfl, by decide +kernel, by decide +kernel⟩
/-- s[:1] of a list or a tuple -/
def rSlOne (K : PySem.W.Frag) : V → Option Int → Option Int → Hp → VK → Prop := fun x lo hi H Q => lo = none ∧ hi = some 1 ∧ ∃ a xs, x = .ref a ∧ (H a = some (.lst xs) ∨ Rd H a (.tup xs)) ∧ ∀ b H2, Same H H2 → (H2 b = some (.lst (xs.take 1)) ∨ Rd H2 b (.tup (xs.take 1))) → Q (.ref b) H2
theorem cut_one (xs : List V) : cutV xs none (some 1) = xs.take 1 := by
  have e1 : HT.sIx xs.length xs.length (some 1) = min 1 xs.length := HT.sIx_nat _ _ 1
  have e2 : HT.sIx xs.length 0 none = 0 := rfl
  unfold cutV
  rw [e1, e2]
  show (xs.drop 0).take (min 1 xs.length - 0) = _
  rw [List.drop_zero, Nat.sub_zero]
  cases xs with
  | nil => rfl
  | cons a b =>
    have e4 : min 1 (a :: b).length = 1 := by simp only [List.length_cons]; omega
    rw [e4]
theorem sl_one {X : Cx} : L2.SlR X (rSlOne X.K) := by
  intro pins s σ H x v vl vu lo hi sl Q I rx hs pl pu h
  obtain ⟨rfl, rfl, a, xs, rfl, hx, q⟩ := h
  rcases hx with hx | hx
  · refine sl_list pins s σ H _ v vl vu _ _ sl Q I rx hs pl pu ⟨a, xs, rfl, SqL.of hx, fun p np => q p _ (same_new np) (.inl ?_)⟩
    rw [cut_one]
    exact upd_same
  · refine sl_tupA pins s σ H _ v vl vu _ _ sl Q I rx hs pl pu ⟨a, xs, rfl, .inl hx, fun h => ?_, fun _ p np => q p _ (same_new np) (.inr (.inl ?_))⟩
    · have e1 : HT.sIx xs.length xs.length (some 1) = min 1 xs.length := HT.sIx_nat _ _ 1
      have h2 := h.2
      rw [e1] at h2
      refine q a H (Same.refl _) (.inr ?_)
      rw [List.take_of_length_le (by omega)]
      exact hx
    · rw [cut_one]
      exact upd_same
def nnV (v : V) : Bool := !decide (v = .non)
def nnW : W → Bool
  | .non => false
  | _ => true
theorem Is.nn {H : Hp} {v : V} {w : W} (h : Is H v w) : nnV v = nnW w := by
  cases h <;> rfl
def thereW (wb wl : W) : List W := [wb, wl].filter nnW
theorem IsAll.filter {H : Hp} : ∀ {vs : List V} {ws : List W}, IsAll H vs ws → IsAll H (vs.filter nnV) (ws.filter nnW)
  | _, _, .nil => .nil
  | v :: vs, w :: ws, .cons h t => by
    rw [List.filter_cons, List.filter_cons, h.nn]
    cases e : nnW w with
    | true => exact .cons h t.filter
    | false => exact t.filter
theorem IsAll.app {H : Hp} : ∀ {vs us : List V} {ws zs : List W}, IsAll H vs ws → IsAll H us zs → IsAll H (vs ++ us) (ws ++ zs)
  | _, _, _, _, .nil, h => h
  | _, _, _, _, .cons h t, h2 => .cons h (t.app h2)
theorem IsAll.take {H : Hp} : ∀ {vs : List V} {ws : List W} (n : Nat), IsAll H vs ws → IsAll H (vs.take n) (ws.take n)
  | _, _, 0, _ => .nil
  | _, _, n + 1, .nil => .nil
  | _, _, n + 1, .cons h t => .cons h (IsAll.take n t)
def OptRow (H : Hp) (v : V) : Option (List Int) → Prop
  | none => v = .non
  | some ns => Row H v ns
theorem OptRow.same {H H' : Hp} {v : V} {o : Option (List Int)} (h : OptRow H v o) (s : Same H H') : OptRow H' v o := by
  cases o with
  | none => exact h
  | some ns => exact Row.same h s
/-- a check after a change -/
def chgB (sn : Int) (k : Nat) (ob : Option (List Int)) (c : List Int) : List Int := match ob with
  | some bs => plusL c (-(sn ^ k)) bs
  | none => c
def chgL (sn : Int) (k : Nat) (ol : Option (List Int)) (c : List Int) : List Int := match ol with
  | some ls => plusL c (sn ^ k) ls
  | none => c
def afterN (sn : Int) (ob ol : Option (List Int)) (ls : List (List Int)) (n : Nat) : List (List Int) := (List.range n).map fun k => chgL sn k ol (chgB sn k ob (ls.getD k []))
def spAfter (CK CE CT : Addr) : Sp := fun vs H Q E => ∃ c s b l wc ws wb wl, vs = [c, s, b, l] ∧ Is H c wc ∧ Is H s ws ∧ Is H b wb ∧ Is H l wl ∧
  ((checksW wc = false ∧ ∀ H', Same H H' → E (.ref CK) none H') ∨ (checksW wc = true ∧ withinW 1 9 ws = false ∧ ∀ H', Same H H' → E (.ref CE) none H') ∨
   (checksW wc = true ∧ withinW 1 9 ws = true ∧ ∃ cs, seqW wc = some cs ∧ ((thereW wb wl).all tupNW && wideW (cs.take 1 ++ thereW wb wl)) = false ∧ ∀ H', Same H H' → E (.ref CT) none H') ∨
   (checksW wc = true ∧ withinW 1 9 ws = true ∧ ∃ cs, seqW wc = some cs ∧ ((thereW wb wl).all tupNW && wideW (cs.take 1 ++ thereW wb wl)) = true ∧
     ∃ a xs ls sn ob ol, ∃ wd : Nat, c = .ref a ∧ (H a = some (.lst xs) ∨ Rd H a (.tup xs)) ∧ RowsL H xs ls ∧ s = .int sn ∧ OptRow H b ob ∧ OptRow H l ol ∧ (∀ r ∈ ls, r.length = wd) ∧ (∀ r, ob = some r → r.length = wd) ∧ (∀ r, ol = some r → r.length = wd) ∧ xs.length ≤ 4 ∧
       ∀ p ys H', Same H H' → H p = none → H' p = some (.lst ys) → RowsL H' ys (afterN sn ob ol ls xs.length) → Q (.ref p) H'))
theorem row_if {o : Option (List Int)} {j : Nat} {vo v7 : V} {c0 : List Int} {n : Int} {tn : L2.TE} {D : Ends} {σ : L2.St} {H : Hp} (h7 : σ[7]? = some (some v7)) (hj : σ[j]? = some (some vo)) (hc : Row H v7 c0) (ho : OptRow H vo o) (lo : ∀ r, o = some r → c0.length = r.length) (n1 : -(2 ^ 64) < n) (n2 : n < 2 ^ 64)
    (ht : ∀ Q : VK, Q (.int n) H → tn σ H Q) (q : ∀ v' H', Same H H' → Row H' v' (match o with
      | some r => plusL c0 n r
      | none => c0) → D.nx (σ.set 7 (some v')) H') :
    tIfS (tTest (tOp (fun x y H Q => y = V.non ∧ Q (V.bl !decide (x = V.non)) H) (tVar j) (tC V.non))) (tAsg (tCall spPlus [] E0 (tCons (tVar 7) (tCons tn (tCons (tVar j) tNil)))) (gName 7)) tNext D σ H := by
  refine ⟨_, hj, rfl, _, rfl, ?_⟩
  cases o with
  | none =>
    have e : vo = .non := ho
    rw [e, decide_eq_true rfl]
    refine iteF ?_
    have z : σ.set 7 (some v7) = σ := by
      refine List.ext_getElem? fun i => ?_
      by_cases h : i = 7
      · subst h
        rw [List.getElem?_set_self (List.getElem?_eq_some_iff.mp h7).1, h7]
      · rw [List.getElem?_set_ne (fun z => h z.symm)]
    have y := q v7 H (Same.refl _) hc
    rw [z] at y
    exact y
  | some r =>
    have hr : Row H vo r := ho
    obtain ⟨a, e, r1, r2⟩ := id hr
    rw [show decide (vo = V.non) = false from decide_eq_false fun z => by rw [e] at z; cases z]
    refine iteT ⟨_, h7, ht _ ⟨_, hj, v7, vo, c0, r, n, rfl, hc, hr, lo r rfl, n1, n2, fun v H' s' hv => q v H' s' hv⟩⟩
section
variable {P : Program} {w : World} {K : PySem.W.Frag} {mg : Str → Option Value} {base : Heap}
theorem ok_after {f f1 f2 f3 f4 f5 f6 CS CK CE CT : Addr} {fd fd1 fd2 fd3 fd4 fd5 fd6 : FuncData} (F : Fun K "after_change" "after_change" sAfter f fd)
    (G1 : FnOk P w K mg base CX0 4 f1 fd1 ["value"] spChecks) (k1 : PySem.W.keepIn K (.ref f1) = true) (b1 : Binds K fd1 ["value"] []) (g1 : mg "are_checks" = some (.ref f1))
    (G2 : FnOk P w K mg base CX0 3 f2 fd2 ["value"] spSeat) (k2 : PySem.W.keepIn K (.ref f2) = true) (b2 : Binds K fd2 ["value"] []) (g2 : mg "is_seat" = some (.ref f2))
    (G3 : FnOk P w K mg base CX0 3 f3 fd3 ["value"] spTupN) (k3 : PySem.W.keepIn K (.ref f3) = true) (b3 : Binds K fd3 ["value"] []) (g3 : mg "is_tuple_of_numbers" = some (.ref f3))
    (G4 : FnOk P w K mg base CX0 1 f4 fd4 ["rows"] spWide) (k4 : PySem.W.keepIn K (.ref f4) = true) (b4 : Binds K fd4 ["rows"] []) (g4 : mg "are_alike_wide" = some (.ref f4))
    (G5 : FnOk P w K mg base CX0 1 f5 fd5 ["number", "power"] spRaised) (k5 : PySem.W.keepIn K (.ref f5) = true) (b5 : Binds K fd5 ["number", "power"] []) (g5 : mg "raised" = some (.ref f5))
    (G6 : FnOk P w K mg base CX0 1 f6 fd6 ["row", "number", "other"] spPlus) (k6 : PySem.W.keepIn K (.ref f6) = true) (b6 : Binds K fd6 ["row", "number", "other"] []) (g6 : mg "plus_times" = some (.ref f6))
    (TK : EC K mg CS "BadChecks" CK) (TE : EC K mg CS "BadSeat" CE) (TT : EC K mg CS "BadTuples" CT) (ma : mg "all" = none) (ml : mg "list" = none) (me : mg "enumerate" = none) : FnOk P w K mg base (L2.CX P w) 5 f fd ["checks", "seat", "before", "later"] (spAfter CK CE CT) := by
  have S := scAf
  refine F.okX S (fun vs H Q E h => ?_) (fun cdv A outer s H vs Q E hr h => ?_)
  · obtain ⟨c, sv, b, l, wc, ws, wb, wl, rfl, _⟩ := h
    rfl
  · obtain ⟨c, sv, b, l, wc, ws, wb, wl, rfl, hc, hs, hb, hl, h⟩ := h
    have tk : Takes (cxOf (L2.CX P w) P w K mg base NAf "after_change" (defScope sAfter) f cdv A outer s H E) (fun cls d _ H => E cls d H) := takes_of rfl rfl rfl rfl
    have hr3 := hr.mono (show 3 ≤ 4 by decide)
    have hr1 := hr.mono (show 1 ≤ 4 by decide)
    refine ⟨_, pss_cons (ps_if (pt_not (pt_val (pe_call G1 hr (by rfl) g1 k1 b1 .nil pass0 (pa_cons (pv 0) pa_nil)))) (pss_one (ps_raise rfl tk (SkE.pmk_own1 PySem.F.excBase_ValueError TK.ex TK.glob TK.kp (raises_own TK.sb TK.ty) (by rfl) pe_str))) pss_nil)
      (pss_cons (ps_if (pt_not (pt_val (pe_call G2 hr3 (by rfl) g2 k2 b2 .nil pass0 (pa_cons (pv 1) pa_nil)))) (pss_one (ps_raise rfl tk (SkE.pmk_own1 PySem.F.excBase_ValueError TE.ex TE.glob TE.kp (raises_own TE.sb TE.ty) (by rfl) pe_str))) pss_nil)
      (pss_cons (ps_setLc (i := 4) (own := [("row", 9)]) (g := gName 9) rfl S.nd rfl rfl (sw_true rfl rfl rfl (by decide +kernel)) (pi_tup (pe_tup (pa_cons (pv 2) (pa_cons (pv 3) pa_nil)))) (blkOk_by (N := NAf) (sc := defScope sAfter) (by decide +kernel)) (fun _ _ _ _ _ => pg_name (i := 9) S.nd rfl (.inl rfl)) (fun _ _ _ _ _ => pts_one (pt_cmpR op_notN (pv 9) pe_non (nomark _))) (fun _ _ _ _ _ => pv 9))
      (pss_cons (ps_if (PW.pt (pw_or (pt_not (pt_val (pe_callB (cr_all (by rfl)) (by rfl) ma (by decide +kernel) (pa_cons (pe_lc (own := [("row", 9)]) (g := gName 9) rfl S.nd (pi_list (pv 4)) (blkOk_by (N := NAf) (sc := defScope sAfter) (by decide +kernel)) (fun _ _ _ _ _ => pg_name (i := 9) S.nd rfl (.inl rfl)) (fun _ _ _ _ _ => pts_nil)
          (fun _ _ _ _ _ => pe_call G3 hr3 (by rfl) g3 k3 b3 .nil pass0 (pa_cons (pv 9) pa_nil))) pa_nil))))
        (pw_or1 (pt_not (pt_val (pe_call G4 hr1 (by rfl) g4 k4 b4 .nil pass0 (pa_cons (pe_op op_cat (pe_callTy (show CallR _ (.type "list") (rLstA K) from call_list_of) (by rfl) ml (by decide +kernel) (pa_cons (pe_slice (show L2.SlR _ (rSlOne K) from sl_one) (pv 0) po_none (po_some pe_int)) pa_nil)) (pv 4)) pa_nil)))))))
        (pss_one (ps_raise rfl tk (SkE.pmk_own1 PySem.F.excBase_ValueError TT.ex TT.glob TT.kp (raises_own TT.sb TT.ty) (by rfl) pe_str))) pss_nil)
      (pss_cons (ps_set (i := 5) S.nd rfl (.inl rfl) (pe_lst pa_nil))
      (pss_cons (ps_for (passes_of rfl) rfl (pi_both (pi_enum (by rfl) me (pa_cons (pv 0) pa_nil)) (pi_enumT (by rfl) me (pa_cons (pv 0) pa_nil))) (pg_tup rfl (pgs_cons (pg_name (i := 6) S.nd rfl (.inl rfl)) (pgs_cons (pg_name (i := 7) S.nd rfl (.inl rfl)) pgs_nil)))
        (pss_cons (ps_set (i := 8) S.nd rfl (.inl rfl) (pe_call G5 hr1 (by rfl) g5 k5 b5 .nil pass0 (pa_cons (pv 1) (pa_cons (pv 6) pa_nil))))
        (pss_cons (ps_if (pt_cmpR op_notN (pv 2) pe_non (nomark _)) (pss_one (ps_set (i := 7) S.nd rfl (.inl rfl) (pe_call G6 hr1 (by rfl) g6 k6 b6 .nil pass0 (pa_cons (pv 7) (pa_cons (pe_un un_neg (pv 8)) (pa_cons (pv 2) pa_nil)))))) pss_nil)
        (pss_cons (ps_if (pt_cmpR op_notN (pv 3) pe_non (nomark _)) (pss_one (ps_set (i := 7) S.nd rfl (.inl rfl) (pe_call G6 hr1 (by rfl) g6 k6 b6 .nil pass0 (pa_cons (pv 7) (pa_cons (pv 8) (pa_cons (pv 3) pa_nil)))))) pss_nil)
        (pss_one (ps_expr (pe_bm PySem.F.plainAttrs_list PySem.F.slot_list_append PySem.F.type_list_append mt_append (pv 5) (pa_cons (pv 7) pa_nil))))))))
      (pss_one (ps_ret (pv 5)))))))), ?_⟩
    refine ⟨_, rfl, c, wc, rfl, hc, fun H1 s1 => ⟨_, rfl, ?_⟩⟩
    rcases h with ⟨e, h⟩ | h
    · rw [e]
      exact iteT (h H1 s1)
    have e : checksW wc = true := by rcases h with ⟨e, _⟩ | ⟨e, _⟩ | ⟨e, _⟩ <;> exact e
    rw [e]
    refine iteF ⟨_, rfl, sv, ws, rfl, hs.same s1, _, rfl, ?_⟩
    rcases h with ⟨_, e2, h⟩ | h
    · rw [e2]
      exact iteT (h H1 s1)
    have e2 : withinW 1 9 ws = true := by rcases h with ⟨_, e, _⟩ | ⟨_, e, _⟩ <;> exact e
    rw [e2]
    refine iteF ?_
    obtain ⟨cs, e3⟩ : ∃ cs, seqW wc = some cs := by rcases h with ⟨_, _, cs, e, _⟩ | ⟨_, _, cs, e, _⟩ <;> exact ⟨cs, e⟩
    obtain ⟨ca, xs, rfl, hca, hxs, hz⟩ := hc.seq e3
    -- what is there
    refine ⟨_, rfl, _, rfl, by show 2 ≤ sizeLine; decide, fun t nt => ?_⟩
    have s2 : Same H (upd H1 t (.tup [b, l])) := s1.trans (same_new nt)
    have et : (upd H1 t (.tup [b, l])) t = some (.tup [b, l]) := upd_same
    generalize upd H1 t (.tup [b, l]) = H2 at s2 et ⊢
    have wk : Walk (Itt K t) ([b, l] : List V).length (fun H' => Same H2 H') (YAt [b, l]) := walk_tup.mono (fun H' s => .inl (.inl (s _ _ et))) (fun _ _ _ _ _ _ y => y)
    refine ⟨t, rfl, ⟨_, .inl (.inl et)⟩, fun D nD => lc_it (D := D) wk (fun i H' => Same H2 H' ∧ H' D = some (.lst (([b, l].take i).filter nnV))) ⟨same_new nD, upd_same⟩ (fun _ _ _ p => p.1) ?_ ?_⟩
    · rintro i x H3 H4 hi ⟨s3, e4⟩ ⟨rfl, hx⟩
      refine ⟨rfl, _, rfl, rfl, _, rfl, ?_⟩
      have ef : (([b, l] : List V).take (i + 1)).filter nnV = (([b, l] : List V).take i).filter nnV ++ [x].filter nnV := by rw [List.take_add_one, hx, List.filter_append]; rfl
      rw [ef]
      cases en : nnV x with
      | true =>
        rw [show (!decide (x = V.non)) = true from en]
        refine iteT ⟨_, rfl, _, e4, ?_, same_own nD s3, ?_⟩
        · have z := List.length_filter_le nnV (([b, l] : List V).take i)
          rw [List.length_take] at z
          have h2 : ([b, l] : List V).length = 2 := rfl
          exact small1000 (by omega)
        · rw [upd_same, List.filter_cons, en]
          rfl
      | false =>
        rw [show (!decide (x = V.non)) = false from en]
        refine iteF ⟨s3, ?_⟩
        rw [List.filter_cons, en]
        show _ = some (HO.lst (_ ++ []))
        rw [List.append_nil]
        exact e4
    · rintro H3 ⟨s3, e4⟩
      rw [List.take_length] at e4
      have s03 := s2.trans s3
      have hT : IsAll H (([b, l] : List V).filter nnV) (thereW wb wl) := (IsAll.cons hb (.cons hl .nil)).filter
      have hTl : (([b, l] : List V).filter nnV).length ≤ 2 := List.length_filter_le _ _
      generalize ([b, l] : List V).filter nnV = th at e4 hT hTl
      generalize hw : thereW wb wl = tw at hT h
      have el : tw.length = th.length := hT.len.symm
      have last : (((tw.all tupNW && wideW (cs.take 1 ++ tw)) = false ∧ ∀ H', Same H H' → E (.ref CT) none H') ∨ ((tw.all tupNW && wideW (cs.take 1 ++ tw)) = true ∧ ∃ xs ls sn ob ol, ∃ wd : Nat, (H ca = some (.lst xs) ∨ Rd H ca (.tup xs)) ∧ RowsL H xs ls ∧ sv = .int sn ∧ OptRow H b ob ∧ OptRow H l ol ∧ (∀ r ∈ ls, r.length = wd) ∧ (∀ r, ob = some r → r.length = wd) ∧ (∀ r, ol = some r → r.length = wd) ∧ xs.length ≤ 4 ∧
          ∀ p ys H', Same H H' → H p = none → H' p = some (.lst ys) → RowsL H' ys (afterN sn ob ol ls xs.length) → Q (.ref p) H')) := by
        rcases h with ⟨_, _, cs', e5, h⟩ | ⟨_, _, cs', e5, e6, a', xs', ls, sn, ob, ol, wd, ea, h⟩
        · rw [e3] at e5
          cases e5
          exact .inl h
        · rw [e3] at e5
          cases e5
          cases ea
          exact .inr ⟨e6, xs', ls, sn, ob, ol, wd, h⟩
      clear h
      refine ⟨_, rfl, D, rfl, ⟨_, SqL.of e4⟩, fun D2 nD2 => lc_it (D := D2) walk_list (PB H3 D2 (tw.map tupNW)) (PB.zero nD2) (fun i H' _ p => SqL.of (p.1 _ _ e4)) ?_ ?_⟩
      · rintro i x H4 H5 hi pb ⟨rfl, hx⟩
        obtain ⟨wi, hwi, his⟩ := hT.get hx
        refine ⟨rfl, ?_⟩
        dsimp only [tYes]
        rw [if_pos rfl]
        exact ⟨_, rfl, x, wi, rfl, his.same (s03.trans pb.1), fun H6 s6 => pb.step s6 nD2 (by omega) (by rw [List.getElem?_map, hwi]; rfl)⟩
      · intro H4 pb
        have hl : (tw.map tupNW).length = th.length := by rw [List.length_map, el]
        rw [← hl] at pb
        have s04 := s03.trans pb.1
        refine ⟨D2, _, rfl, SqL.of pb.all, ?_⟩
        rw [show (tw.map tupNW).all id = tw.all tupNW by rw [List.all_map]; rfl]
        cases e7 : tw.all tupNW with
        | false =>
          refine ⟨_, rfl, iteT (iteT ?_)⟩
          rw [e7] at last
          rcases last with ⟨_, h⟩ | ⟨z, _⟩
          · exact h H4 s04
          · cases z
        | true =>
          rw [e7, Bool.true_and] at last
          refine ⟨_, rfl, iteF ⟨_, rfl, 1, rfl, rfl, rfl, ca, xs, rfl, seq_same hca s04, fun b1 H5 s5 hb1 => ?_⟩⟩
          have s05 := s04.trans s5
          refine ⟨b1, _, rfl, seq_sq hb1, fun p np => ?_⟩
          have s6 : Same H5 (upd H5 p (.lst (xs.take 1))) := same_new np
          have ep : (upd H5 p (.lst (xs.take 1))) p = some (.lst (xs.take 1)) := upd_same
          generalize upd H5 p (.lst (xs.take 1)) = H6 at s6 ep ⊢
          have hx1 : (xs.take 1).length ≤ 1 := by rw [List.length_take]; exact Nat.min_le_left _ _
          refine ⟨_, rfl, p, D, _, _, rfl, rfl, ep, (pb.1.trans (s5.trans s6)) _ _ e4, Nat.le_of_lt (small1000 (by omega)), fun q1 nq => ?_⟩
          have s06 := s05.trans s6
          have s7 := s06.trans (same_new (o := .lst (xs.take 1 ++ th)) nq)
          have call : cs.all tupNW = true := by
            unfold checksW at e
            rw [e3] at e
            simp only [Bool.and_eq_true] at e
            exact e.2.1
          refine ⟨q1, _, cs.take 1 ++ tw, rfl, upd_same, ((hxs.take 1).app hT).same s7, by rw [List.length_append]; omega, fun x hx => ?_, fun H7 s8 => ⟨_, rfl, ?_⟩⟩
          · rcases List.mem_append.mp hx with z | z
            · exact tupN_tup (List.all_eq_true.mp call x (List.mem_of_mem_take z))
            · exact tupN_tup (List.all_eq_true.mp e7 x z)
          have s07 := s7.trans s8
          cases e8 : wideW (cs.take 1 ++ tw) with
          | false =>
            refine iteT ?_
            rw [e8] at last
            rcases last with ⟨_, h⟩ | ⟨z, _⟩
            · exact h H7 s07
            · cases z
          | true =>
            rw [e8] at last
            rcases last with ⟨z, _⟩ | ⟨_, xs', ls, sn, ob, ol, wd, hca', hrows, rfl, hob, hol, hls, hobw, holw, hx4, fin⟩
            · cases z
            refine iteF ⟨by show 0 ≤ sizeLine; decide, fun out nout => ?_⟩
            have nH : H out = none := s07.free nout
            have src : ∃ J : It, Walk J xs'.length (fun H' => Same H H') (YPair (fun i => some (V.int (i : Nat))) (fun i => xs'[i]?)) ∧
                ∀ (σ : L2.St) (H' : Hp) (R : It → Hp → Prop), σ[0]? = some (some (.ref ca)) → Same H H' → R J H' → iEnum K (tCons (tVar 0) tNil) σ H' R ∨ iEnumT K (tCons (tVar 0) tNil) σ H' R := by
              rcases hca' with e | e
              · exact ⟨_, walk_enum.mono (fun H' s => SqL.of (s _ _ e)) (fun _ _ _ _ _ _ y => y), fun σ H' R h0 s r => .inl ⟨_, h0, ca, xs', rfl, SqL.of (s _ _ e), r⟩⟩
              · exact ⟨_, walk_enumT.mono (fun H' s => .inl (Rd.same e s)) (fun _ _ _ _ _ _ y => y), fun σ H' R h0 s r => .inr ⟨_, h0, ca, xs', rfl, .inl (Rd.same e s), r⟩⟩
            obtain ⟨J, wkJ, src⟩ := src
            have s08 := s07.trans (same_new (o := .lst []) nout)
            refine src _ _ _ rfl s08 (for_it wkJ (fun i σ H' => ∃ y6 y7 y8 ys, σ = [some (.ref ca), some (.int sn), some b, some l, some (.ref D), some (.ref out), y6, y7, y8, none] ∧ Same H H' ∧ H' out = some (.lst ys) ∧ RowsL H' ys (afterN sn ob ol ls i))
              ⟨none, none, none, [], rfl, s08, upd_same, rfl, fun i v e => by cases e⟩ (fun _ _ _ _ ⟨_, _, _, _, _, s, _⟩ => s) ?_ ?_)
            · rintro i x σ H9 H10 hi ⟨y6, y7, y8, ys, rfl, s9, eo, hys⟩ ⟨Tp, x1, x2, rfl, nT, rfl, e10, e11⟩
              cases e10
              obtain ⟨c0, hc0, rc⟩ := hrows.2 i x2 e11
              have i4 : i ≤ 4 := by omega
              have sb : 1 ≤ sn ∧ sn ≤ 9 := by
                cases hs
                have z : (decide (1 ≤ sn) && decide (sn ≤ 9)) = true := e2
                simp only [Bool.and_eq_true, decide_eq_true_eq] at z
                exact z
              have pw := pow_small sb.1 sb.2 i4
              have sT : Same H9 (upd H9 Tp (.tup [V.int (i : Nat), x2])) := same_new nT
              have c0w : c0.length = wd := hls c0 (List.mem_of_getElem? hc0)
              refine ⟨Tp, _, rfl, .inl (.inl upd_same), rfl, _, _, rfl, _, _, rfl, rfl, ?_⟩
              generalize upd H9 Tp (.tup [V.int (i : Nat), x2]) = H11 at sT ⊢
              have s11 := s9.trans sT
              refine ⟨_, rfl, _, rfl, sn, i, rfl, by omega, by omega, by omega, ?_⟩
              refine row_if (j := 2) (o := ob) (c0 := c0) (n := -(sn ^ i)) rfl rfl (rc.same s11) (hob.same s11) (fun r e => by rw [c0w, hobw r e]) (by omega) (by omega) (fun Q h => ⟨_, rfl, _, rfl, h⟩) fun v1 H12 s12 r1 => ?_
              have c1w : (chgB sn i ob c0).length = wd := by
                cases ob with
                | none => exact c0w
                | some bs => show (plusL _ _ _).length = wd; rw [plusL_len (by rw [c0w, hobw bs rfl]), c0w]
              have s012 := s11.trans s12
              refine row_if (j := 3) (o := ol) (c0 := chgB sn i ob c0) (n := sn ^ i) rfl rfl r1 (hol.same s012) (fun r e => by rw [c1w, holw r e]) (by omega) (by omega) (fun Q h => ⟨_, rfl, h⟩) fun v2 H13 s13 r2 => ?_
              have eo13 := (sT.trans (s12.trans s13)) _ _ eo
              refine ⟨_, rfl, .inl ⟨rfl, _, SqL.of eo13⟩, _, rfl, out, ys, v2, rfl, rfl, eo13, ?_, _, _, _, _, rfl, same_own nH (s012.trans s13), upd_same, ?_⟩
              · have z := hys.1
                unfold afterN at z
                rw [List.length_map, List.length_range] at z
                exact small1000 (by omega)
              · unfold afterN
                rw [List.range_succ, List.map_append]
                have keep : ∀ {v : V} {ns : List Int}, Row H13 v ns → Row (upd H13 out (.lst (ys ++ [v2]))) v ns := fun ⟨bb, e, r, n⟩ => by
                  have ne : bb ≠ out := fun z => by
                    rcases r with r | ⟨o, r⟩ <;> (rw [z, eo13] at r; cases r)
                  refine ⟨bb, e, ?_, n⟩
                  rcases r with r | ⟨o, r⟩
                  · exact .inl (by rw [upd_ne ne]; exact r)
                  · exact .inr ⟨o, by rw [upd_ne ne]; exact r⟩
                have h5 := hys.same (sT.trans (s12.trans s13))
                refine RowsL.snoc ⟨h5.1, fun j v e => ?_⟩ ?_
                · obtain ⟨ns, e1, r⟩ := h5.2 j v e
                  exact ⟨ns, e1, keep r⟩
                · have eg : ls.getD i [] = c0 := by rw [List.getD_eq_getElem?_getD, hc0]; rfl
                  show Row _ _ (chgL sn i ol (chgB sn i ob (ls.getD i [])))
                  rw [eg]
                  exact keep r2
            · rintro σ H9 ⟨y6, y7, y8, ys, rfl, s9, eo, hys⟩
              exact ⟨_, rfl, fin _ _ _ s9 nH eo hys⟩
end
end Kn
-- part TCut
set_option maxHeartbeats 4000000
/-! The heap without the draws and the tables (as in k07); defs whose code object is known. -/
namespace Kn
open PySem PySem.Spec PyProof.Rows L2 Err LamX
theorem valV_out {κ : Type} [DecidableEq κ] {kvs : List (κ × V)} {k : κ} (h : k ∉ kvs.map (·.1)) : valV kvs k = none := by
  unfold valV
  rw [Option.map_eq_none_iff, List.find?_eq_none]
  intro p hp e
  exact h (List.mem_map.mpr ⟨p, hp, of_decide_eq_true e⟩)
def noTbl : Option HO → Option HO
  | some (.tbl _) => none
  | o => o
theorem noTbl_some {u : Option HO} {o : HO} (e : noTbl u = some o) : u = some o ∧ ∀ ps, o ≠ .tbl ps := by
  cases u with
  | none => cases e
  | some v =>
    cases v with
    | tbl ps => cases e
    | _ =>
      refine ⟨e, fun ps z => ?_⟩
      rw [z] at e
      cases e
theorem noTbl_of {o : HO} (n : ∀ ps, o ≠ .tbl ps) : noTbl (some o) = some o := by
  cases o with
  | tbl ps => exact absurd rfl (n ps)
  | _ => rfl
/-- the heap without the draws and the tables of code objects -/
def cut (d l : Addr) (H : Hp) : Hp := fun b => if b = d ∨ b = l then none else noTbl (H b)
theorem cut_ne4 {d l b : Addr} {H : Hp} {o : HO} (e : cut d l H b = some o) : b ≠ d ∧ b ≠ l ∧ H b = some o ∧ ∀ ps, o ≠ .tbl ps := by
  unfold cut at e
  by_cases z : b = d ∨ b = l
  · rw [if_pos z] at e
    cases e
  · rw [if_neg z] at e
    exact ⟨fun q => z (.inl q), fun q => z (.inr q), noTbl_some e⟩
theorem cut_ne {d l b : Addr} {H : Hp} {o : HO} (e : cut d l H b = some o) : b ≠ d ∧ b ≠ l ∧ H b = some o := ⟨(cut_ne4 e).1, (cut_ne4 e).2.1, (cut_ne4 e).2.2.1⟩
theorem cut_le {d l : Addr} {H : Hp} : Same (cut d l H) H := fun b o e => (cut_ne e).2.2
theorem cut_at {d l b : Addr} {H : Hp} {o : HO} (e : H b = some o) (n1 : b ≠ d) (n2 : b ≠ l) (n3 : ∀ ps, o ≠ .tbl ps := by intro _ z; cases z) : cut d l H b = some o := by
  unfold cut
  rw [if_neg (by rintro (z | z); exact n1 z; exact n2 z), e]
  exact noTbl_of n3
/-- all but the draws and the tables -/
def ButN (d l : Addr) (H H' : Hp) : Prop := ∀ b o, H b = some o → b ≠ d → b ≠ l → (∀ ps, o ≠ .tbl ps) → H' b = some o
theorem ButN.cut {d l : Addr} {H H' : Hp} (B : ButN d l H H') : Same (cut d l H) (cut d l H') := fun b o e => by
  obtain ⟨n1, n2, e, n3⟩ := cut_ne4 e
  exact cut_at (B b o e n1 n2 n3) n1 n2 n3
theorem But.n {d l : Addr} {H H' : Hp} (B : But d l H H') : ButN d l H H' := fun b o e h1 h2 _ => B b o e h1 h2
theorem ButN.ext {d l : Addr} {H H' : Hp} (B : LamX.ExtN H H') : ButN d l H H' := fun b o e _ _ n => B b o e n
theorem ButN.refl {d l : Addr} {H : Hp} : ButN d l H H := fun _ _ e _ _ _ => e
theorem ButN.trans {d l : Addr} {H H1 H2 : Hp} (a : ButN d l H H1) (b : ButN d l H1 H2) : ButN d l H H2 := fun x o e h1 h2 n => b x o (a x o e h1 h2 n) h1 h2 n
theorem But.cut {d l : Addr} {H H' : Hp} (B : But d l H H') : Same (Kn.cut d l H) (Kn.cut d l H') := ButN.cut B.n
theorem But.of {d l : Addr} {H H' : Hp} (s : Same H H') : But d l H H' := fun b o e _ _ => s b o e
theorem But.back {d l c : Addr} {H H2 : Hp} {a : Addr} (B : But d l H H2) (D : Drw H2 d l c) (z : H2 a = none) : H a = none := by
  cases w : H a with
  | none => rfl
  | some o =>
    by_cases e1 : a = d
    · obtain ⟨⟨_, _, v⟩, _, _, _⟩ := D
      rw [← e1, z] at v
      cases v
    · by_cases e2 : a = l
      · obtain ⟨_, ⟨_, v⟩, _, _⟩ := D
        rw [← e2, z] at v
        cases v
      · rw [B a o w e1 e2] at z
        cases z
theorem Drw.off {d l c : Addr} {H : Hp} (D : Drw H d l c) {a : Addr} (z : H a = none) : a ≠ d ∧ a ≠ l := by
  refine ⟨fun e => ?_, fun e => ?_⟩
  · obtain ⟨⟨_, _, w⟩, _, _, _⟩ := D
    rw [← e, z] at w
    cases w
  · obtain ⟨_, ⟨_, w⟩, _, _⟩ := D
    rw [← e, z] at w
    cases w
/-- the draws stand in a heap that holds all of this one -/
theorem Drw.same {d l c : Addr} {H H' : Hp} (D : Drw H d l c) (s : Same H H') : Drw H' d l c := by
  obtain ⟨⟨r, t, h⟩, ⟨ns, hl⟩, ⟨ms, hc⟩, n⟩ := D
  exact ⟨⟨r, t, s _ _ h⟩, ⟨ns, s _ _ hl⟩, ⟨ms, s _ _ hc⟩, n⟩
/-- some value -/
def Isx (H : Hp) (v : V) : Prop := ∃ w, Is H v w
theorem Isx.same {H H' : Hp} {v : V} (h : Isx H v) (s : Same H H') : Isx H' v := by
  obtain ⟨w, h⟩ := h
  exact ⟨w, h.same s⟩
theorem isx_int {H : Hp} {i : Int} : Isx H (.int i) := ⟨_, .int i⟩
theorem isx_non {H : Hp} : Isx H .non := ⟨_, .non⟩
theorem isx_bl {H : Hp} {b : Bool} : Isx H (.bl b) := ⟨_, .bl b⟩
theorem isx_str {H : Hp} {x : Str} (h : x.cps.size ≤ 900) (ok : PyData.strOk x = true) : Isx H (.str x) := ⟨_, .str x h ok⟩
theorem isx_all {H : Hp} : ∀ {xs : List V}, (∀ x ∈ xs, Isx H x) → ∃ ws, IsAll H xs ws
  | [], _ => ⟨_, .nil⟩
  | x :: xs, h => by
    obtain ⟨w, hw⟩ := h x (List.mem_cons_self ..)
    obtain ⟨ws, hws⟩ := isx_all (xs := xs) fun y hy => h y (List.mem_cons_of_mem _ hy)
    exact ⟨_, .cons hw hws⟩
theorem isx_lst {H : Hp} {a : Addr} {xs : List V} (e : H a = some (.lst xs)) (z : xs.length ≤ 900) (h : ∀ x ∈ xs, Isx H x) : Isx H (.ref a) := by
  obtain ⟨ws, hw⟩ := isx_all h
  exact ⟨_, .lst z e hw⟩
theorem isx_tup {H : Hp} {a : Addr} {xs : List V} (e : Rd H a (.tup xs)) (z : xs.length ≤ 900) (h : ∀ x ∈ xs, Isx H x) : Isx H (.ref a) := by
  obtain ⟨ws, hw⟩ := isx_all h
  exact ⟨_, .tup z e hw⟩
theorem isx_kv {H : Hp} : ∀ {kvs : List (Key × V)}, (∀ p ∈ kvs, kSm (some p.1) ∧ Isx H p.2) → ∃ kws, IsKV H (kvs.map fun p => (some p.1, p.2)) kws
  | [], _ => ⟨_, .nil⟩
  | p :: kvs, h => by
    obtain ⟨h1, w, hw⟩ := h p (List.mem_cons_self ..)
    obtain ⟨ws, hws⟩ := isx_kv (kvs := kvs) fun y hy => h y (List.mem_cons_of_mem _ hy)
    exact ⟨_, .cons h1 hw hws⟩
theorem isx_dct {H : Hp} {a : Addr} {kvs : List (Key × V)} (e : H a = some (.dK kvs)) (z : kvs.length ≤ 900) (h : ∀ p ∈ kvs, kSm (some p.1) ∧ Isx H p.2) : Isx H (.ref a) := by
  obtain ⟨kws, hw⟩ := isx_kv h
  exact ⟨_, .dct (by rw [List.length_map]; exact z) ⟨kvs, .inl e, rfl⟩ hw⟩
theorem isx_ints {H : Hp} {a : Addr} {ns : List Int} (e : H a = some (.lst (ns.map V.int))) (z : ns.length ≤ 900) : Isx H (.ref a) :=
  isx_lst e (by rw [List.length_map]; exact z) fun x hx => by
    obtain ⟨i, _, rfl⟩ := List.mem_map.mp hx
    exact isx_int
theorem Isx.at {H : Hp} {a : Addr} (h : Isx H (.ref a)) : ∃ o, H a = some o := by
  obtain ⟨w, h⟩ := h
  cases h with
  | lst _ e _ => exact ⟨_, e⟩
  | tup _ e _ => rcases e with e | ⟨o, e⟩ <;> exact ⟨_, e⟩
  | dct _ e _ =>
    obtain ⟨ks, e, _⟩ := e
    rcases e with e | ⟨o, e⟩ <;> exact ⟨_, e⟩
/-! ### dicts -/
theorem mem_putK {κ : Type} [DecidableEq κ] {kvs : List (κ × V)} {k : κ} {v : V} {p : κ × V} (h : p ∈ putK kvs k v) : p = (k, v) ∨ p ∈ kvs := by
  unfold putK at h
  split at h
  · obtain ⟨q, hq, e⟩ := List.mem_map.mp h
    split at e
    · rename_i z
      left
      rw [← e]
      simp_all
    · exact .inr (e ▸ hq)
  · rcases List.mem_append.mp h with z | z
    · exact .inr z
    · exact .inl (List.mem_singleton.mp z)
theorem keys_putK {κ : Type} [DecidableEq κ] {kvs : List (κ × V)} {k : κ} {v : V} : (putK kvs k v).map (·.1) = kvs.map (·.1) ∨ (k ∉ kvs.map (·.1) ∧ (putK kvs k v).map (·.1) = kvs.map (·.1) ++ [k]) := by
  cases e : valV kvs k with
  | none =>
    refine .inr ⟨fun z => ?_, by rw [putK_new v e, List.map_append]; rfl⟩
    obtain ⟨p, hp, hk⟩ := List.mem_map.mp z
    unfold valV at e
    rw [Option.map_eq_none_iff, List.find?_eq_none] at e
    exact e p hp (decide_eq_true hk)
  | some x =>
    left
    unfold putK
    split
    · rw [List.map_map]
      refine List.map_congr_left fun q _ => ?_
      show (if _ then (q.1, v) else q).1 = q.1
      split <;> rfl
    · rename_i h
      unfold valV at e
      obtain ⟨p, hp, _⟩ := Option.map_eq_some_iff.mp e
      have h1 := List.mem_of_find?_eq_some hp
      have h2 := List.find?_some hp
      exact absurd (List.any_eq_true.mpr ⟨p, h1, h2⟩) h
theorem nodup_putK {κ : Type} [DecidableEq κ] {kvs : List (κ × V)} {k : κ} {v : V} (h : (kvs.map (·.1)).Nodup) : ((putK kvs k v).map (·.1)).Nodup := by
  rcases keys_putK (kvs := kvs) (k := k) (v := v) with e | ⟨n, e⟩
  · rw [e]; exact h
  · rw [e]
    refine List.nodup_append.mpr ⟨h, List.nodup_cons.mpr ⟨by simp, List.nodup_nil⟩, fun a ha b hb => ?_⟩
    rw [List.mem_singleton.mp hb]
    intro z
    exact n (z ▸ ha)
section
variable {X : Cx} {f : Value} {r1 r2 : List V → Hp → VK → Prop}
theorem cr_two (h1 : CallR X f r1) (h2 : CallR X f r2) : CallR X f (fun xs H Q => r1 xs H Q ∨ r2 xs H Q) := by
  rintro pins s σ H xs us Q I r q
  rcases q with q | q
  · exact h1 pins s σ H xs us Q I r q
  · exact h2 pins s σ H xs us Q I r q
end
/-- a def whose code object is known -/
structure FunC (K : PySem.W.Frag) (x qual : Str) (st : Stmt) (f : Addr) (fd : FuncData) (c : Addr) : Prop where
  ex : ∃ (oc : Value) (od : Option Addr) (kV doc pm : Value) (an : Option Addr) (ct : Value) (osl : Array (Option Value)),
    fd = PySem.W.fnOf x qual (defArgs st) (defBody st) (defScope st) .none kV doc pm an (.ref c) ct ∧ K.lookup f = some ⟨oc, od, .func fd, osl⟩ ∧ PySem.W.codeIn K (.ref c) qual = true
  kp : PySem.W.keepIn K (.ref f) = true
theorem FunC.toFun {K : PySem.W.Frag} {x qual : Str} {st : Stmt} {f c : Addr} {fd : FuncData} (F : FunC K x qual st f fd c) : Fun K x qual st f fd := by
  obtain ⟨oc, od, kV, doc, pm, an, ct, osl, h1, h2, h3⟩ := F.ex
  exact ⟨⟨oc, od, kV, doc, pm, an, .ref c, ct, osl, h1, h2, h3⟩, F.kp⟩
theorem FunC.ok {P : Program} {w : World} {K : PySem.W.Frag} {mg : Str → Option Value} {base : Heap} {x qual : Str} {st : Stmt} {f c : Addr} {fd : FuncData} {N ps : List Str} {k : Nat} {sp : Sp} (F : FunC K x qual st f fd c) (S : FnScope N ps (defScope st)) (len : ∀ vs H Q E, sp vs H Q E → vs.length = ps.length)
    (hbody : ∀ (A : Around) (outer : List Env) (s : Shared) (H : Hp) (vs : List V) (Q : VK) (E : XK), Room k (A.deeper (envOfC qual (defScope st) s.heap.objs.size f (.ref c))) → sp vs H Q E →
      ∃ t, PSs (cxOf CX0 P w K mg base N qual (defScope st) f (.ref c) A outer s H E).nox (defBody st) t ∧ t { nx := fun _ H' => Q .non H', rt := Q } (start N vs) H) : FnOk P w K mg base CX0 (k + 1) f fd ps sp := by
  obtain ⟨oc, od, kV, doc, pm, an, ct, osl, rfl, lk, hcd⟩ := F.ex
  refine fn_of lk hcd S len fun A outer s H vs Q E hr hsp => ?_
  obtain ⟨t, h, q⟩ := hbody A outer s H vs Q E hr hsp
  exact ⟨t, h.nox, q⟩
/-! ### tables -/
theorem tabs_but {T : List (Addr × Str)} {d l c : Addr} {H H' : Hp} (t : Tabs T H) (D : Drw H d l c) (B : But d l H H') : Tabs T H' := fun p hp => by
  obtain ⟨ps, h1, h2, h3⟩ := t p hp
  obtain ⟨⟨r, tt, hd⟩, ⟨ns, hl⟩, _, _⟩ := D
  have keep : ∀ {b : Addr} {o : HO}, H b = some o → (∀ kvs, o ≠ .dK kvs) → (∀ xs, o ≠ .lst xs) → H' b = some o := fun {b o} e n1 n2 => B b o e (fun z => by rw [z, hd] at e; exact n1 _ (Option.some.inj e).symm) (fun z => by rw [z, hl] at e; exact n2 _ (Option.some.inj e).symm)
  refine ⟨ps, keep h1 (fun _ z => by cases z) (fun _ z => by cases z), h2, fun pos cv hc => ?_⟩
  obtain ⟨c0, e1, e2⟩ := h3 pos cv hc
  exact ⟨c0, e1, keep e2 (fun _ z => by unfold CodeO at z; cases z) (fun _ z => by unfold CodeO at z; cases z)⟩
theorem Drw.extN {d l c : Addr} {H H' : Hp} (D : Drw H d l c) (B : ExtN H H') : Drw H' d l c := by
  obtain ⟨⟨r, t, h⟩, ⟨ns, hl⟩, ⟨ms, hc⟩, n⟩ := D
  exact ⟨⟨r, t, B _ _ h (fun _ z => by cases z)⟩, ⟨ns, B _ _ hl (fun _ z => by cases z)⟩, ⟨ms, B _ _ hc (fun _ z => by cases z)⟩, n⟩
theorem tabs_keep {T : List (Addr × Str)} {H H' : Hp} (t : Tabs T H) (k : ∀ b o, H b = some o → (∀ xs, o ≠ .lst xs) → (∀ C dx fs, o ≠ .ins C dx fs) → H' b = some o) : Tabs T H' := fun p hp => by
  obtain ⟨ps, h1, h2, h3⟩ := t p hp
  refine ⟨ps, k _ _ h1 (fun _ z => by cases z) (fun _ _ _ z => by cases z), h2, fun pos cv hc => ?_⟩
  obtain ⟨c0, e1, e2⟩ := h3 pos cv hc
  exact ⟨c0, e1, k _ _ e2 (fun _ z => by unfold CodeO at z; cases z) (fun _ _ _ z => by unfold CodeO at z; cases z)⟩
def hole (r : Addr) (H : Hp) : Hp := fun b => if b = r then none else H b
theorem hole_at {r b : Addr} {H : Hp} {o : HO} (e : H b = some o) (n : b ≠ r) : hole r H b = some o := by
  unfold hole
  rw [if_neg n]
  exact e
theorem hole_ne {r b : Addr} {H : Hp} {o : HO} (e : hole r H b = some o) : b ≠ r ∧ H b = some o := by
  unfold hole at e
  by_cases z : b = r
  · rw [if_pos z] at e
    cases e
  · rw [if_neg z] at e
    exact ⟨z, e⟩
theorem hole_same {r : Addr} {H H' : Hp} (s : Same H H') : Same (hole r H) (hole r H') := fun b o e => by
  obtain ⟨n, e⟩ := hole_ne e
  exact hole_at (s _ _ e) n
/-- what a value says stands without the tables -/
theorem ext_cut {H H' : Hp} (e : ExtN H H') : Same (fun b => noTbl (H b)) H' := fun b o h => by
  obtain ⟨h1, h2⟩ := noTbl_some h
  exact e b o h1 h2
theorem rd_nt {H : Hp} {a : Addr} {u : HO} (h : Rd H a u) (n : ∀ ps, u ≠ .tbl ps) : Rd (fun b => noTbl (H b)) a u := by
  rcases h with e | ⟨o, e⟩
  · left
    show noTbl (H a) = _
    rw [e]
    exact noTbl_of n
  · right
    refine ⟨o, ?_⟩
    show noTbl (H a) = _
    rw [e]
    rfl
mutual
theorem is_nt {H : Hp} {v : V} {w : W} : Is H v w → Is (fun b => noTbl (H b)) v w
  | .non => .non
  | .bl b => .bl b
  | .int i => .int i
  | .str x h ok => .str x h ok
  | .lst h e t => .lst h (by show noTbl _ = _; rw [e]; rfl) (isA_nt t)
  | .tup h e t => .tup h (rd_nt e (fun _ z => by cases z)) (isA_nt t)
  | .dct h ⟨ks, e, q⟩ t => .dct h ⟨ks, (rd_nt e (fun _ z => by cases z)), q⟩ (isK_nt t)
theorem isA_nt {H : Hp} {v : List V} {w : List W} : IsAll H v w → IsAll (fun b => noTbl (H b)) v w
  | .nil => .nil
  | .cons h t => .cons (is_nt h) (isA_nt t)
theorem isK_nt {H : Hp} {v : List (Option Key × V)} {w : List (Option Key × W)} : IsKV H v w → IsKV (fun b => noTbl (H b)) v w
  | .nil => .nil
  | .cons hk h t => .cons hk (is_nt h) (isK_nt t)
end
theorem is_ext {H H' : Hp} {v : V} {w : W} (h : Is H v w) (e : ExtN H H') : Is H' v w := (is_nt h).same (ext_cut e)
/-! ### rows -/
theorem IsAll.drop {H : Hp} : ∀ {xs : List V} {ws : List W} (i : Nat), IsAll H xs ws → IsAll H (xs.drop i) (ws.drop i)
  | _, _, 0, h => h
  | _, _, _ + 1, .nil => .nil
  | _, _, i + 1, .cons _ t => t.drop i
theorem QAt.n {H H' : Hp} {a C : Addr} {fs : List (Str × V)} (h : QAt H a C fs) (s : ∀ b o, H b = some o → (∀ ps, o ≠ .tbl ps) → (∀ xs, o ≠ .lst xs) → (∀ kvs, o ≠ .dK kvs) → H' b = some o) : QAt H' a C fs := by
  obtain ⟨d, e1, e2⟩ := h
  exact ⟨d, s _ _ e1 (fun _ z => by unfold exq at z; cases z) (fun _ z => by unfold exq at z; cases z) (fun _ z => by unfold exq at z; cases z), s _ _ e2 (fun _ z => by cases z) (fun _ z => by cases z) (fun _ z => by cases z)⟩
theorem QAt.ext {H H' : Hp} {a C : Addr} {fs : List (Str × V)} (h : QAt H a C fs) (e : ExtN H H') : QAt H' a C fs := QAt.n h fun b o w n _ _ => e b o w n
theorem QAt.but {d l c : Addr} {H H' : Hp} {a C : Addr} {fs : List (Str × V)} (h : QAt H a C fs) (D : Drw H d l c) (B : But d l H H') : QAt H' a C fs := QAt.n h fun b o w n1 n2 n3 => by
  obtain ⟨⟨r, tt, hd⟩, ⟨ns, hl⟩, _, _⟩ := D
  exact B b o w (fun z => by rw [z, hd] at w; exact n3 _ (Option.some.inj w).symm) (fun z => by rw [z, hl] at w; exact n2 _ (Option.some.inj w).symm)
theorem small_log {k : Int} (h0 : 0 ≤ k) (h1 : k < 900) : k.natAbs.log2 < 1920 := Nat.lt_of_le_of_lt (Nat.log2_le_self _) (by omega)
end Kn
-- part TNum
set_option maxHeartbeats 4000000
/-! _law_number, _law_power. -/
namespace Kn
open PySem PySem.Spec PyProof.Rows L2 Err
abbrev sLNum : Stmt := topS 39
abbrev sLPow : Stmt := topS 41
abbrev NLp : List Str := ["_law_seat", "_law_index", "_law_found", "_law_turn"]
theorem scLn : FnScope ["_law_draw"] ["_law_draw"] (defScope sLNum) := ⟨rfl, rfl, rfl, by decide +kernel, rfl, by decide +kernel, by decide +kernel⟩
theorem scLp : FnScope NLp ["_law_seat", "_law_index"] (defScope sLPow) := ⟨rfl, rfl, rfl, by decide +kernel, rfl, by decide +kernel, by decide +kernel⟩
theorem pick_new {d l c : Addr} {H : Hp} {xs : List V} {Q : VK} (D : Drw H d l c) (x0 : 0 < xs.length) (x1 : xs.length ≤ 1000) (q : ∀ x H', x ∈ xs → Drw H' d l c → But d l H H' → Q x H') {e : Addr} (ne : H e = none) : spPick [.ref d, .ref e] (upd H e (.lst xs)) Q (fun _ _ _ => False) :=
  ⟨d, l, c, e, xs, rfl, D.new ne, upd_same, (D.off ne).2, x0, x1, fun k x H' hk D' B' => q x H' (List.mem_of_getElem? hk) D' ((But.new ne).trans B')⟩
def spLNum : Sp := fun vs H Q _ => ∃ d l c, vs = [.ref d] ∧ Drw H d l c ∧ ∀ k H', k.natAbs < 10 ^ 21 → Drw H' d l c → But d l H H' → Q (.int k) H'
section
variable {P : Program} {w : World} {K : PySem.W.Frag} {mg : Str → Option Value} {base : Heap}
theorem ok_lnum {f f1 f2 : Addr} {fd fd1 fd2 : FuncData} (F : Fun K "_law_number" "_law_number" sLNum f fd) (G1 : FnOk P w K mg base CX0 2 f1 fd1 ["_law_draw", "_law_amount"] spTake) (k1 : PySem.W.keepIn K (.ref f1) = true) (b1 : Binds K fd1 ["_law_draw", "_law_amount"] []) (g1 : mg "_law_take" = some (.ref f1))
    (G2 : FnOk P w K mg base CX0 3 f2 fd2 ["_law_draw", "_law_some"] spPick) (k2 : PySem.W.keepIn K (.ref f2) = true) (b2 : Binds K fd2 ["_law_draw", "_law_some"] []) (g2 : mg "_law_pick" = some (.ref f2)) : FnOk P w K mg base CX0 4 f fd ["_law_draw"] spLNum := by
  have S := scLn
  refine F.ok S (fun vs H Q E h => ?_) (fun cdv A outer s H vs Q E hr h => ?_)
  · obtain ⟨d, l, c, rfl, _⟩ := h
    rfl
  · obtain ⟨d, l, c, rfl, D, q⟩ := h
    have hr2 := hr.mono (show 2 ≤ 3 by decide)
    refine ⟨_, pss_one (ps_ret (pe_call G2 hr (by rfl) g2 k2 b2 .nil pass0 (pa_cons (pv 0) (pa_cons (pe_lst (pa_cons pe_int (pa_cons pe_int (pa_cons pe_int (pa_cons pe_int (pa_cons pe_int (pa_cons (pe_un un_neg pe_int) (pa_cons (pe_un un_neg pe_int)
      (pa_cons (pe_call G1 hr2 (by rfl) g1 k1 b1 .nil pass0 (pa_cons (pv 0) (pa_cons pe_int pa_nil))) (pa_cons (pe_op op_add (pe_op op_pow pe_int pe_int) (pe_call G1 hr2 (by rfl) g1 k1 b1 .nil pass0 (pa_cons (pv 0) (pa_cons pe_int pa_nil)))) pa_nil)))))))))) pa_nil)))), ?_⟩
    refine ⟨_, rfl, _, rfl, _, rfl, _, rfl, d, l, c, 100, rfl, D, by decide, by decide, fun k3 H1 a1 a2 D1 B1 => ?_⟩
    refine ⟨_, _, rfl, rfl, ⟨by decide, by decide, by decide⟩, _, rfl, d, l, c, 1000, rfl, D1, by decide, by decide, fun k4 H2 a3 a4 D2 B2 => ?_⟩
    refine ⟨_, _, rfl, rfl, by show 9 ≤ sizeLine; decide, fun p np => ?_⟩
    refine pick_new D2 (by show 0 < 9; decide) (by show 9 ≤ 1000; decide) (fun x H3 hx D3 B3 => ?_) np
    have fin : ∀ k : Int, x = .int k → k.natAbs < 10 ^ 21 → Q x H3 := fun k e z => by
      rw [e]
      exact q k H3 z D3 ((B1.trans B2).trans B3)
    simp only [List.mem_cons, List.not_mem_nil, or_false] at hx
    rcases hx with z | z | z | z | z | z | z | z | z
    · exact fin _ z (by decide)
    · exact fin _ z (by decide)
    · exact fin _ z (by decide)
    · exact fin _ z (by decide)
    · exact fin _ z (by decide)
    · exact fin _ z (by decide)
    · exact fin _ z (by decide)
    · exact fin _ z (by omega)
    · refine fin _ z ?_
      have e : (10 : Int) ^ (20 : Int).toNat = 100000000000000000000 := by decide
      rw [e]
      omega
theorem ok_lpow {f : Addr} {fd : FuncData} (F : Fun K "_law_power" "_law_power" sLPow f fd) (mr : mg "range" = none) : FnOk P w K mg base CX0 1 f fd ["_law_seat", "_law_index"] spRaised := by
  have S := scLp
  refine F.ok S (fun vs H Q E h => ?_) (fun cdv A outer s H vs Q E hr h => ?_)
  · obtain ⟨n, p, rfl, _⟩ := h
    rfl
  · obtain ⟨n, p, rfl, n1, n2, hp, q⟩ := h
    refine ⟨_, (pss_cons (ps_set (i := 2) S.nd rfl (.inl rfl) pe_int)
      (pss_cons (ps_for PassesOwn.never rfl (pi_range1 (by rfl) mr (pa_cons (pv 1) pa_nil)) (pg_name (i := 3) S.nd rfl (.inl rfl))
        (pss_one (ps_set (i := 2) S.nd rfl (.inl rfl) (pe_op op_mul (pv 2) (pv 0)))))
      (pss_one (ps_ret (pv 2))))), ?_⟩
    refine ⟨_, rfl, p, rfl, by omega, by omega, for_range (fun i σ H1 => ∃ y, σ = [some (.int n), some (.int p), some (.int (n ^ i)), y] ∧ H1 = H) ⟨none, by rw [Int.pow_zero]; rfl, rfl⟩ ?_ ?_⟩
    · rintro i σ H1 hi ⟨y, rfl, rfl⟩
      exact ⟨_, rfl, _, rfl, _, _, rfl, rfl, .inr ⟨n1, n2⟩, _, by rw [Int.pow_succ]; rfl, rfl⟩
    · rintro σ H1 ⟨y, rfl, rfl⟩
      rw [Int.toNat_natCast]
      exact ⟨_, rfl, q⟩
end
end Kn
-- part TTup
set_option maxHeartbeats 4000000
/-! _law_tuples. -/
namespace Kn
open PySem PySem.Spec PyProof.Rows L2 Err
abbrev sLTup : Stmt := topS 40
abbrev NLt : List Str := ["_law_draw", "_law_most", "_law_width", "_law_found", "_law_seat", "_law_k"]
theorem scLt : FnScope NLt ["_law_draw", "_law_most", "_law_width"] (defScope sLTup) := ⟨rfl, rfl, rfl, by decide +kernel, rfl, by decide +kernel, by decide +kernel⟩
/-- numbers that can be shown -/
def Sml (ns : List Int) : Prop := ∀ x ∈ ns, x.natAbs < 10 ^ 21
theorem Row.but {d l c : Addr} {H H' : Hp} {v : V} {ns : List Int} (h : Row H v ns) (D : Drw H d l c) (B : But d l H H') : Row H' v ns := by
  obtain ⟨a, e, r, n⟩ := h
  obtain ⟨⟨r0, t0, hd⟩, ⟨ns0, hl⟩, _, _⟩ := D
  refine ⟨a, e, ?_, n⟩
  rcases r with r | ⟨o, r⟩
  · exact .inl (B _ _ r (fun z => by rw [z, hd] at r; cases r) (fun z => by rw [z, hl] at r; cases r))
  · exact .inr ⟨o, B _ _ r (fun z => by rw [z, hd] at r; cases r) (fun z => by rw [z, hl] at r; cases r)⟩
theorem KvI.but {d l c : Addr} {H H' : Hp} (D : Drw H d l c) (B : But d l H H') {ks : List (Key × V)} {L : Tps} (h : KvI H ks L) : KvI H' ks L := by
  induction h with
  | nil => exact .nil
  | cons r _ ih => exact .cons (r.but D B) ih
theorem KvI.snoc {H : Hp} {ks : List (Key × V)} {L : Tps} {i : Int} {v : V} {ns : List Int} (h : KvI H ks L) (r : Row H v ns) : KvI H (ks ++ [(.inl i, v)]) (L ++ [(i, ns)]) := by
  induction h with
  | nil => exact .cons r .nil
  | cons r0 _ ih => exact .cons r0 ih
theorem Row.upd {H : Hp} {a : Addr} {o : HO} {v : V} {ns : List Int} (h : Row H v ns) (n : ∀ xs, H a ≠ some (.tup xs) ∧ ∀ ob, H a ≠ some (.frz ob (.tup xs))) : Row (L2.upd H a o) v ns := by
  obtain ⟨b, e, r, z⟩ := h
  refine ⟨b, e, ?_, z⟩
  rcases r with r | ⟨ob, r⟩
  · exact .inl (by rw [upd_ne (fun y => (n _).1 (y ▸ r))]; exact r)
  · exact .inr ⟨ob, by rw [upd_ne (fun y => (n _).2 ob (y ▸ r))]; exact r⟩
theorem KvI.upd {H : Hp} {a : Addr} {o : HO} (n : ∀ xs, H a ≠ some (.tup xs) ∧ ∀ ob, H a ≠ some (.frz ob (.tup xs))) {ks : List (Key × V)} {L : Tps} (h : KvI H ks L) : KvI (L2.upd H a o) ks L := by
  induction h with
  | nil => exact .nil
  | cons r _ ih => exact .cons (r.upd n) ih
theorem no_tup_dk {H : Hp} {a : Addr} {ks : List (Key × V)} (e : H a = some (.dK ks)) : ∀ xs, H a ≠ some (.tup xs) ∧ ∀ ob, H a ≠ some (.frz ob (.tup xs)) := fun xs => ⟨(fun z => by rw [e] at z; cases z), (fun ob z => by rw [e] at z; cases z)⟩
theorem cut_to (xs : List V) (n : Nat) : cutV xs none (some (n : Int)) = xs.take n := by
  have e1 : HT.sIx xs.length xs.length (some (n : Int)) = min n xs.length := HT.sIx_nat _ _ n
  have e2 : HT.sIx xs.length 0 none = 0 := rfl
  unfold cutV
  rw [e1, e2, List.drop_zero, Nat.sub_zero]
  by_cases h : n ≤ xs.length
  · rw [Nat.min_eq_left h]
  · rw [Nat.min_eq_right (by omega), List.take_length, List.take_of_length_le (by omega)]
def toI : V → Int
  | .int i => i
  | _ => 0
theorem seats_of {ys : List V} (h : ys.Perm (rgV 1 10)) : ∃ ns : List Int, ys = ns.map V.int ∧ ns.Nodup ∧ (∀ x ∈ ns, 1 ≤ x ∧ x ≤ 9) ∧ ns.length = 9 := by
  have e : (rgV 1 10).map toI = [1, 2, 3, 4, 5, 6, 7, 8, 9] := by decide +kernel
  have hp : (ys.map toI).Perm [1, 2, 3, 4, 5, 6, 7, 8, 9] := e ▸ h.map toI
  refine ⟨ys.map toI, ?_, hp.nodup_iff.mpr (by decide), fun x hx => ?_, hp.length_eq⟩
  · rw [List.map_map]
    refine (List.map_id ys).symm.trans (List.map_congr_left fun y hy => ?_)
    have z := h.mem_iff.mp hy
    unfold rgV at z
    obtain ⟨i, _, rfl⟩ := List.mem_map.mp z
    rfl
  · have z := hp.mem_iff.mp hx
    simp only [List.mem_cons, List.not_mem_nil, or_false] at z
    omega
def spLTup : Sp := fun vs H Q _ => ∃ d l c, ∃ wd : Nat, vs = [.ref d, .int 8, .int wd] ∧ Drw H d l c ∧ wd ≤ 45 ∧ ∀ a L H', Drw H' d l c → But d l H H' → H a = none → TupD H' a L → TOk L wd → L.length ≤ 8 → (∀ p ∈ L, Sml p.2) → Q (.ref a) H'
section
variable {P : Program} {w : World} {K : PySem.W.Frag} {mg : Str → Option Value} {base : Heap}
theorem ok_ltup {f f1 f2 f3 : Addr} {fd fd1 fd2 fd3 : FuncData} (F : Fun K "_law_tuples" "_law_tuples" sLTup f fd) (G1 : FnOk P w K mg base CX0 2 f1 fd1 ["_law_draw", "_law_amount"] spTake) (k1 : PySem.W.keepIn K (.ref f1) = true) (b1 : Binds K fd1 ["_law_draw", "_law_amount"] []) (g1 : mg "_law_take" = some (.ref f1))
    (G2 : FnOk P w K mg base CX0 3 f2 fd2 ["_law_draw", "_law_some"] spShuf) (k2 : PySem.W.keepIn K (.ref f2) = true) (b2 : Binds K fd2 ["_law_draw", "_law_some"] []) (g2 : mg "_law_shuffled" = some (.ref f2))
    (G3 : FnOk P w K mg base CX0 4 f3 fd3 ["_law_draw"] spLNum) (k3 : PySem.W.keepIn K (.ref f3) = true) (b3 : Binds K fd3 ["_law_draw"] []) (g3 : mg "_law_number" = some (.ref f3))
    (ml : mg "list" = none) (mr : mg "range" = none) (mt : mg "tuple" = none) : FnOk P w K mg base CX0 5 f fd ["_law_draw", "_law_most", "_law_width"] spLTup := by
  have S := scLt
  refine F.ok S (fun vs H Q E h => ?_) (fun cdv A outer s H vs Q E hr h => ?_)
  · obtain ⟨d, l, c, wd, rfl, _⟩ := h
    rfl
  · obtain ⟨d, l, c, wd, rfl, D, hw, q⟩ := h
    have hu := hu_of hr
    have hr2 := hr.mono (show 2 ≤ 4 by decide)
    have hr3 := hr.mono (show 3 ≤ 4 by decide)
    refine ⟨_, (pss_cons (ps_set (i := 3) S.nd rfl (.inl rfl) pe_dnewK)
      (pss_cons (ps_for PassesOwn.never rfl (pi_list (pe_slice (show L2.SlR _ (rSlL K) from sl_list) (pe_call G2 hr3 (by rfl) g2 k2 b2 .nil pass0 (pa_cons (pv 0) (pa_cons (pe_listRg (by rfl) (by rfl) ml (prg_2 (by rfl) mr pe_int pe_int)) pa_nil))) po_none (po_some (pe_op op_add pe_int (pe_call G1 hr2 (by rfl) g1 k1 b1 .nil pass0 (pa_cons (pv 0) (pa_cons (pv 1) pa_nil))))))) (pg_name (i := 4) S.nd rfl (.inl rfl))
        (pss_one (ps_dput hu (pv 3) (pv 4) (pe_callTy (show CallR _ (.type "tuple") (rTupA K) from call_tuple_of) (by rfl) mt (by decide +kernel) (pa_cons (pe_lc (own := [("_law_k", 5)]) (g := gName 5) rfl S.nd (pi_range1 (by rfl) mr (pa_cons (pv 2) pa_nil)) (blkOk_by (N := NLt) (sc := defScope sLTup) (by decide +kernel)) (fun _ _ _ _ _ => pg_name (i := 5) S.nd rfl (.inl rfl)) (fun _ _ _ _ _ => pts_nil)
          (fun _ _ _ _ _ => pe_call G3 hr (by rfl) g3 k3 b3 .nil pass0 (pa_cons (pv 0) pa_nil))) pa_nil)) rfl)))
      (pss_one (ps_ret (pv 3))))), ?_⟩
    intro fo nfo
    have D1 : Drw (L2.upd H fo (.dK [])) d l c := D.new nfo
    have ef : (L2.upd H fo (.dK [])) fo = some (.dK []) := upd_same
    have B1 : But d l H (L2.upd H fo (.dK [])) := .new nfo
    have off := D.off nfo
    generalize L2.upd H fo (.dK []) = H1 at D1 ef B1 ⊢
    refine ⟨_, rfl, 1, 10, rfl, rfl, RgOk.of_le (by decide) (by decide) (by decide) (by decide), fun s0 ns0 => ?_⟩
    have D2 : Drw (L2.upd H1 s0 (.lst (rgV 1 10))) d l c := D1.new ns0
    refine ⟨d, l, c, s0, rgV 1 10, rfl, D2, upd_same, (D1.off ns0).2, fun x hx => ?_, by rw [rgV_length]; decide, fun yl ys H3 perm D3 B3 nyl eyl => ?_⟩
    · unfold rgV at hx
      obtain ⟨i, _, rfl⟩ := List.mem_map.mp hx
      exact ⟨_, .int _⟩
    obtain ⟨ns, rfl, nd, n19, n9⟩ := seats_of perm
    have B13 : But d l H1 H3 := (But.new ns0).trans B3
    have offy := D2.off nyl
    refine ⟨_, rfl, _, rfl, d, l, c, 8, rfl, D3, by decide, by decide, fun k H4 k0 k1' D4 B4 => ⟨_, _, rfl, rfl, ?_⟩⟩
    obtain ⟨j, rfl⟩ := Int.eq_ofNat_of_zero_le k0
    refine ⟨((1 + j : Nat) : Int), by rw [Int.natCast_add]; rfl, yl, _, rfl, SqL.of (B4 _ _ eyl offy.1 offy.2), fun zl nzl => ⟨zl, rfl, ⟨_, SqL.of upd_same⟩, ?_⟩⟩
    rw [cut_to, ← List.map_take]
    have hm : (ns.take (1 + j)).length = 1 + j := by rw [List.length_take, n9]; omega
    have ndm : (ns.take (1 + j)).Nodup := nd.sublist (List.take_sublist _ _)
    have sm : ∀ x ∈ ns.take (1 + j), 1 ≤ x ∧ x ≤ 9 := fun x hx => n19 x (List.mem_of_mem_take hx)
    generalize ns.take (1 + j) = ms at hm ndm sm
    have D5 : Drw (L2.upd H4 zl (.lst (ms.map V.int))) d l c := D4.new nzl
    have B15 : But d l H1 (L2.upd H4 zl (.lst (ms.map V.int))) := (B13.trans B4).trans (But.new nzl)
    have ez : (L2.upd H4 zl (.lst (ms.map V.int))) zl = some (.lst (ms.map V.int)) := upd_same
    have offz := D4.off nzl
    have ef5 := B15 _ _ ef off.1 off.2
    generalize L2.upd H4 zl (.lst (ms.map V.int)) = H5 at D5 B15 ez ef5 ⊢
    have nez : fo ≠ zl := fun z => by rw [z, ez] at ef5; cases ef5
    refine for_list (xs := ms.map V.int) (fun i σ H6 => ∃ y4 y5 ks L, σ = [some (.ref d), some (.int 8), some (.int wd), some (.ref fo), y4, y5] ∧ Drw H6 d l c ∧ But d l H H6 ∧ H6 zl = some (.lst (ms.map V.int)) ∧ H6 fo = some (.dK ks) ∧ KvI H6 ks L ∧ L.map (·.1) = ms.take i ∧ ∀ p ∈ L, p.2.length = wd ∧ Sml p.2)
      ⟨none, none, [], [], rfl, D5, B1.trans B15, ez, ef5, .nil, rfl, fun p hp => by cases hp⟩ (fun i σ H6 _ ⟨_, _, _, _, _, _, _, e, _⟩ => SqL.of e) ?_ ?_
    · rintro i x σ H6 hx ⟨y4, y5, ks, L, rfl, D6, B6, ez6, ef6, hk, hL, hb⟩
      rw [List.getElem?_map] at hx
      obtain ⟨st, hst, rfl⟩ := Option.map_eq_some_iff.mp hx
      have hi : i < ms.length := (List.getElem?_eq_some_iff.mp hst).1
      refine ⟨_, rfl, wd, rfl, by omega, by omega, fun Dl nDl => lc_it (D := Dl) walk_range (fun k H7 => ∃ as : List Int, H7 Dl = some (.lst (as.map V.int)) ∧ as.length = k ∧ Sml as ∧ Drw H7 d l c ∧ But d l H6 H7) ⟨[], upd_same, rfl, (fun x hx => by cases hx), D6.new nDl, .new nDl⟩ (fun _ _ _ _ => trivial) ?_ ?_⟩
      · rintro k x H7 H8 hk2 ⟨as, ea, la, sa, D7, B7⟩ ⟨rfl, rfl⟩
        refine ⟨rfl, ?_⟩
        dsimp only [tYes]
        rw [if_pos rfl]
        have offD := D6.off nDl
        refine ⟨_, rfl, d, l, c, rfl, D7, fun v H9 hv D9 B9 => ⟨_, B9 _ _ ea offD.1 offD.2, by rw [List.length_map]; exact small1000 (by omega), as ++ [v], ?_, by rw [List.length_append, la]; rfl, fun x hx => ?_, D9.own D6 nDl, (B7.trans B9).own nDl⟩⟩
        · rw [upd_same, List.map_append]
          rfl
        · rcases List.mem_append.mp hx with z | z
          · exact sa x z
          · rw [List.mem_singleton.mp z]
            exact hv
      · rintro H7 ⟨as, ea, la, sa, D7, B7⟩
        rw [Int.toNat_natCast] at la
        refine ⟨Dl, _, rfl, .inl ⟨SqL.of ea, fun tp ntp => ?_⟩⟩
        have D8 : Drw (L2.upd H7 tp (.tup (as.map V.int))) d l c := D7.new ntp
        have B8 : But d l H6 (L2.upd H7 tp (.tup (as.map V.int))) := B7.trans (.new ntp)
        have rw8 : Row (L2.upd H7 tp (.tup (as.map V.int))) (.ref tp) as := ⟨tp, rfl, .inl upd_same, by omega⟩
        generalize L2.upd H7 tp (.tup (as.map V.int)) = H8 at D8 B8 rw8 ⊢
        have ef8 := B8 _ _ ef6 off.1 off.2
        have ez8 := B8 _ _ ez6 offz.1 offz.2
        have hk8 := hk.but D6 B8
        have new : (Sum.inl st : Key) ∉ ks.map (·.1) := fun z => by
          rw [hk.keys, hL] at z
          obtain ⟨y, hy, e⟩ := List.mem_map.mp z
          cases e
          have e2 := (List.take_append_drop i ms).symm
          rw [e2] at ndm
          refine (List.nodup_append.mp ndm).2.2 _ hy _ (List.mem_of_getElem? (i := 0) ?_) rfl
          rw [List.getElem?_drop]
          exact hst
        have lk : ks.length ≤ 8 := by
          have z := congrArg List.length hL
          rw [List.length_map, List.length_take] at z
          rw [hk.len, z]
          omega
        refine ⟨_, rfl, _, rfl, fo, _, rfl, DPut.k (k := Sum.inl st) ef8 (small1000 (by omega)), ?_⟩
        rw [putK_new _ (valV_out new)]
        have nt := no_tup_dk ef8
        refine ⟨_, _, ks ++ [(.inl st, .ref tp)], L ++ [(st, as)], rfl, D8.own D nfo, (B6.trans B8).own nfo, by rw [upd_ne nez.symm]; exact ez8, upd_same, (hk8.snoc rw8).upd nt, ?_, fun p hp => ?_⟩
        · rw [List.map_append, hL, List.take_add_one, hst]
          rfl
        · rcases List.mem_append.mp hp with z | z
          · exact hb p z
          · rw [List.mem_singleton.mp z]
            exact ⟨la, sa⟩
    · rintro σ H6 ⟨y4, y5, ks, L, rfl, D6, B6, ez6, ef6, hk, hL, hb⟩
      rw [List.length_map, List.take_length] at hL
      have ll : L.length = 1 + j := by
        have z := congrArg List.length hL
        rw [List.length_map, hm] at z
        exact z
      refine ⟨_, rfl, q fo L H6 D6 B6 nfo ⟨ks, ef6, hk⟩ ⟨by omega, by omega, by rw [hL]; exact ndm, fun p hp => ?_, fun p hp => (hb p hp).1, hw⟩ (by omega) fun p hp => (hb p hp).2⟩
      exact sm p.1 (by rw [← hL]; exact List.mem_map_of_mem hp)
end
end Kn
-- part TSort
set_option maxHeartbeats 4000000
/-! sorted(d.items()). -/
namespace L2
open PySem PySem.Spec PyProof.Rows PySem.W LiI
/-- the pairs tracked, nothing else new -/
theorem pairs_laid {X : Cx} {pins : List (Addr × Obj)} {σ : L2.St} {H : Hp} {s : Shared} {h' : Heap} {tk : Nat} {kvs : List (Key × V)} {vs : List (Key × Value)} {as : List Addr} {lo : Addr} (I : Inv X pins σ H s) (kv : KV kvs vs)
    (hk : ∀ b o, s.heap.get? b = some o → h'.get? b = some o) (hl : as.length = vs.length) (hlo : s.heap.objs.size ≤ lo) (hG : PySem.W.KdxG (mixKind X.prog X.w) vs lo h' as) :
    ∃ H' : Hp, (∀ b o, H b = some o → H' b = some o) ∧ (∀ t ∈ as, H t = none) ∧ Paired (fun (t : Addr) (q : Key × V) => H' t = some (.tup [kV q.1, q.2])) as kvs ∧ (∀ b, b ∉ as → H' b = H b) ∧ Inv X pins σ H' { s with heap := h', toks := tk } := by
  have lk : kvs.length = vs.length := Paired.length kv
  have nd : as.Nodup := List.Pairwise.imp (fun {a b} (h : a < b) => Nat.ne_of_lt h) hG.rise
  have abv : ∀ t ∈ as, s.heap.objs.size ≤ t := fun t ht => Nat.le_trans hlo (Nat.le_of_lt (hG.above t ht))
  have new : ∀ t ∈ as, H t = none := fun t ht => I.hok.fresh (abv t ht)
  have atP := putT_at as kvs H (by omega) nd
  have off : ∀ b, b ∉ as → putT H as kvs b = H b := fun b h1 => putT_off as kvs _ h1
  have low : ∀ b o, s.heap.get? b = some o → b ∉ as := fun b o e z => absurd (Heap.lt_size e) (Nat.not_lt.mpr (abv b z))
  have kp : ∀ b u, H b = some u → putT H as kvs b = some u := fun b u e => by
    rw [off b (fun z => by rw [new b z] at e; cases e)]
    exact e
  refine ⟨putT H as kvs, kp, new, atP, off, ?_⟩
  refine I.call' (ch := []) rfl ⟨fun b o q _ _ _ => hk b o q, fun b o q _ _ _ => ⟨o.slots, hk b o q⟩, fun b o q n _ => ?_, fun b o q _ => ⟨o, hk b o q⟩, fun b xs q => kp b _ q, fun b o u q => kp b _ q, fun b ps q => ⟨#[], by rw [kp b _ q]; simp⟩⟩ (fun b u q => ?_) I.bare fun b z => by simp at z
  · rw [off b (low b o q)]
    exact n
  · by_cases hb : b ∈ as
    · obtain ⟨j, pk, e1, e2, e3⟩ := paired_ix atP hb
      rw [e3] at q
      cases q
      obtain ⟨key, k, x, f1, f2, f3⟩ := hG.pairs j b e1
      obtain ⟨qv, g1, g2, g3⟩ := paired_get kv e2
      rw [f1] at g1
      cases g1
      have rk : RelV (kV pk.1) key := by
        rw [g2]
        exact relV_key (show keyIs k key = true from f2)
      exact ⟨by show 2 ≤ sizeLine; decide, [key, x], .cons rk (.cons g3 .nil), ⟨_, f3, rfl, _, rfl⟩⟩
    · rw [off b hb] at q
      exact (I.hok b u q).stay (fun d v _ y => hk d v y) (fun d y => kp d _ y) fun d xs y => kp d _ y
def encI (kvs : List (Key × V)) (ds : List PyData) : List PyData := (kvs.zip ds).map fun p => PyData.tuple [keyD p.1.1, p.2]
theorem items_zip {K : PySem.W.Frag} {H : Hp} : ∀ {ts : List Addr} {kvs : List (Key × V)} {ds : List PyData}, Paired (fun (t : Addr) (q : Key × V) => H t = some (.tup [kV q.1, q.2])) ts kvs → DpAll K H (kvs.map (·.2)) ds →
    (ts.zip (encI kvs ds)).map (·.1) = ts ∧ (ts.zip (encI kvs ds)).map (·.2) = encI kvs ds ∧ DpAll K H ((ts.zip (encI kvs ds)).map fun b => V.ref b.1) ((ts.zip (encI kvs ds)).map (·.2))
  | _, _, _, .nil, .nil => ⟨rfl, rfl, .nil⟩
  | _, _, _, .cons h t, .cons hd td => by
    obtain ⟨e1, e2, e3⟩ := items_zip t td
    refine ⟨congrArg (_ :: ·) e1, congrArg (_ :: ·) e2, .cons (.tup (.inl (.inl h)) (.cons (dp_key _) (.cons hd .nil))) e3⟩
def rSortItems (K : PySem.W.Frag) : V → Hp → VK → Prop := fun x H Q => ∃ (d : Addr) (kvs : List (Key × V)) (ds : List PyData), x = .ref d ∧ H d = some (.dK kvs) ∧ (∀ H', (∀ b o, H b = some o → H' b = some o) → DpAll K H' (kvs.map (·.2)) ds) ∧ AllAlike (encI kvs ds) ∧ Sortable (encI kvs ds) ∧ (∀ e ∈ encI kvs ds, e.depth ≤ 8) ∧
  ∀ (H' : Hp) (ts us : List Addr) (p : Addr), (∀ b o, H b = some o → H' b = some o) → (∀ t ∈ ts, H t = none) → Paired (fun (t : Addr) (q : Key × V) => H' t = some (.tup [kV q.1, q.2])) ts kvs → us.Perm ts → H' p = none → Q (.ref p) (upd H' p (.lst (us.map V.ref)))
def tSortItems (K : PySem.W.Frag) (te : TE) : TE := fun σ H Q => te σ H fun x H1 => rSortItems K x H1 Q
theorem pe_sortItems {X : Cx} {e : Expr} {te : TE} {p apos cpos pos : Pos} (hc : X.calm = true) (hu : X.A.units + 64 < cLine) (he : PE X e te) (hg : Gl X "sorted") (hm : X.mg "sorted" = none) (hv : bootBuiltins "sorted" = some (.builtin "sorted")) (hbase : attributeBase e "items" X.env (eval e X.env) = eval e X.env := by rfl) (hline : (apos.endLine == cpos.line) = true := by rfl)
    (hs : starEach [.Call (.Attribute e "items" apos) [] [] cpos] X.env = (false, eval (.Call (.Attribute e "items" apos) [] [] cpos) X.env) :: starEach [] X.env := by rfl) :
    PE X (.Call (.Name "sorted" p) [.Call (.Attribute e "items" apos) [] [] cpos] [] pos) (tSortItems X.K te) := by
  refine ⟨fun pins s σ H Q I hq => ?_⟩
  refine wpAny_Call_Name_kw (ld_blt I hg hm hv ?_)
  refine PyProof.Rows.callWith_builtin1 ?_ hs rfl
  rw [hs]
  show wpAny _ _ (spliced ((false, eval (.Call (.Attribute e "items" apos) [] [] cpos) X.env) :: backTo pos (starEach [] X.env))) _ _ s
  refine Calls.spliced_cons ?_
  refine wpAny_Call_method (T := "dict") (id := "dict.items") hbase rfl hline F.plainAttrs_dict F.slot_dict_items F.type_dict_items (thn (he.run pins s σ H _ I hq) fun u s1 ⟨x, H1, I1, rx, d, kvs, ds, ex, hd, hdp, al, so, dep, q⟩ => ?_)
  subst ex
  obtain rfl : u = Value.ref d := rx
  obtain ⟨hz, hs0, vs, kv, hdo⟩ := I1.hok d _ hd
  obtain ⟨ep, hat⟩ := hdo.dictAt
  have lk : kvs.length = vs.length := Paired.length kv
  have I2 : Inv X pins σ H1 { s1 with heap := s1.heap.push { cls := .type "dict_items", data := .fields #[.ref d] } } := I1.kept (t' := s1.toks) fun b ob q => Heap.get?_push_of_some _ q
  refine ⟨hdo.typeIs, hdo.mapOf.noDict, ?_⟩
  show wpAny _ _ (callWith cpos (.builtin "dict.items") [.ref d] [] []) _ X.xe s1
  refine method_meetsIn F.slot_dict_items F.entry_dict_items rfl (PySem.evalArgs_none ⟨rfl, hdo.typeIs, F.args_dict_items_1 _, _, meets_dict_items (mixKind X.prog X.w) d hs0, ⟨vs, hdo⟩, ?_⟩)
  refine Calls.spliced_nil ?_
  refine Calls.call_function_entry kind_sorted plain_sorted entry_sorted (args_sorted1 _) ?_
  unfold Builtin.«sorted»
  refine wpAny_bind (m := checkCount "sorted" 1 1 _) (wpAny_pure ?_)
  refine wpAny_bind (PySem.W.kdx_collect (A := X.A.in1) (knd := mixKind X.prog X.w) (kvs := vs) (ep := ep) (I1.ok.hd hc) ⟨_, Heap.get?_push_size _ rfl, rfl, rfl⟩ (hat.push _) (by omega) fun h' tk as hk hl hG => ?_)
  obtain ⟨H', k1, k2, k3, k4, J⟩ := pairs_laid (tk := tk) I2 kv hk hl (Nat.le_refl _) hG
  obtain ⟨z1, z2, z3⟩ := items_zip k3 (hdp H' k1)
  generalize hbs : as.zip (encI kvs ds) = bs at z1 z2 z3
  have lb : bs.length = vs.length := by
    have := congrArg List.length z1
    rw [List.length_map] at this
    rw [this, hl]
  have ea : as.map Value.ref = (bs.map (·.1)).map Value.ref := by rw [z1]
  generalize hus : as.map Value.ref = us at ea ⊢
  have rv : Vals (bs.map fun b => V.ref b.1) us := by
    rw [ea]
    have e : (bs.map fun b => V.ref b.1) = (bs.map (·.1)).map V.ref := by rw [List.map_map]; rfl
    rw [e]
    exact vals_refs _
  have hal : us.length ≤ sizeLine := by rw [ea, List.length_map, List.length_map]; omega
  refine wpAny_bind (wpAny_newList ?_ hal)
  have hoL : (h'.push (seqObj "list" us.toArray 0)).get? h'.objs.size = some (seqObj "list" us.toArray 0) := Heap.get?_push_size _ rfl
  show wpAny _ _ _ _ _ { s1 with heap := h'.push (seqObj "list" us.toArray 0), toks := tk }
  apply wpAny_bind
  apply wpAny_holding
  have old : ∀ b o, h'.get? b = some o → b ≠ h'.objs.size := fun b o e => Nat.ne_of_lt (Heap.lt_size e)
  have kp2 : ∀ b o, h'.get? b = some o → (sortingHeap (h'.push (seqObj "list" us.toArray 0)) h'.objs.size us).get? b = some o := fun b o e => sortingHeap_old (old b o e) (Heap.get?_push_of_some _ e)
  have rv2 : Vals ((bs.map fun b => (V.ref b.1, b.2)).map (·.1)) us := by
    rw [List.map_map]
    exact rv
  have z4 : DpAll X.K H' ((bs.map fun b => (V.ref b.1, b.2)).map (·.1)) ((bs.map fun b => (V.ref b.1, b.2)).map (·.2)) := by
    rw [List.map_map, List.map_map]
    exact z3
  have rd0 := each_reads J rv2 z4
  have rd1 : EachIs (fun u (b : Addr × PyData) => ∃ as, Reads (sortingHeap (h'.push (seqObj "list" us.toArray 0)) h'.objs.size us) u b.2 as) us bs :=
    (each_back (R := fun u (b : V × PyData) => ∃ as, Reads h' u b.2 as) (f := fun b : Addr × PyData => (V.ref b.1, b.2)) rd0).mono fun u b ⟨as, r⟩ => ⟨as, PyProof.Rows.Reads.keeps kp2 r⟩
  have ev : EachIs (fun u (b : Addr × PyData) => RelV (V.ref b.1) u) us bs := each_back (f := fun b : Addr × PyData => (V.ref b.1, b.2)) (each_vals rv2)
  have al2 : AllAlike (bs.map fun b => b.2) := by rw [show (bs.map fun b => b.2) = encI kvs ds from z2]; exact al
  have so2 : Sortable (bs.map fun b => b.2) := by rw [show (bs.map fun b => b.2) = encI kvs ds from z2]; exact so
  refine wpAny_call_entry slot_list_sort ⟨_, hoL, rfl⟩ entry_list_sort (list_sort_vals (κ := dataKind (sortingHeap (h'.push (seqObj "list" us.toArray 0)) h'.objs.size us) (bs.map fun b => b.2)) hoL
    (SortsAt.data (s := { s1 with heap := sortingHeap (h'.push (seqObj "list" us.toArray 0)) h'.objs.size us, toks := tk }) (each_map (R := fun v d => ∃ as, Reads (sortingHeap (h'.push (seqObj "list" us.toArray 0)) h'.objs.size us) v d as) (fun b : Addr × PyData => b.2) rd1) al2 so2 (bound_map fun b hb => ?_)) hal ⟨.none, rfl, ?_⟩) (args_list_sort _)
  · have e := dep b.2 (by rw [← z2]; exact List.mem_map_of_mem hb)
    show X.A.in1.in1.units + _ < cLine
    have y : X.A.in1.in1.units = X.A.units + 2 := rfl
    omega
  · have out := sortVals_data (R := fun u (b : Addr × PyData) => RelV (V.ref b.1) u) (enc := fun b => b.2) false ev rd1 al2
    have r2 : Vals ((bs.mergeSort (dataLe false fun b => b.2)).map fun b => V.ref b.1) (sortVals (dataKind (sortingHeap (h'.push (seqObj "list" us.toArray 0)) h'.objs.size us) (bs.map fun b => b.2)) false us us) := by
      have y := vals_each (bs := (bs.mergeSort (dataLe false fun b => b.2)).map fun b => (V.ref b.1, b.2)) (each_forth (f := fun b : Addr × PyData => (V.ref b.1, b.2)) out)
      rw [List.map_map] at y
      exact y
    obtain ⟨n, hn2⟩ := sortedHeap_at (vs := us) (out := (sortVals (dataKind (sortingHeap (h'.push (seqObj "list" us.toArray 0)) h'.objs.size us) (bs.map fun b => b.2)) false us us).toArray) hoL
    have em : ((bs.mergeSort (dataLe false fun b => b.2)).map fun b => V.ref b.1) = ((bs.mergeSort (dataLe false fun b => b.2)).map (·.1)).map V.ref := by rw [List.map_map]; rfl
    refine wpAny_pure ⟨_, rfl, .ref h'.objs.size, upd H' h'.objs.size (.lst (((bs.mergeSort (dataLe false fun b => b.2)).map (·.1)).map V.ref)), J.laid (t' := tk) (fun b o e => ?_) (Nat.le_refl _) ⟨?_, _, n, em ▸ r2, hn2⟩, rfl, q H' as _ _ k1 (fun t ht => k2 t ht) k3 ?_ (J.hok.fresh (Nat.le_refl _))⟩
    · rw [sortedHeap_old (old b o e) (by rw [size_push']; exact Nat.lt_succ_of_lt (Heap.lt_size e))]
      exact Heap.get?_push_of_some _ e
    · rw [List.length_map, List.length_map, List.length_mergeSort]
      omega
    · have z := (List.mergeSort_perm bs (dataLe false fun b => b.2)).map (·.1)
      rw [z1] at z
      exact z
end L2
-- part TLChk
set_option maxHeartbeats 4000000
/-! _law_check. -/
namespace Kn
open PySem PySem.Spec PyProof.Rows L2 Err
abbrev sLChk : Stmt := topS 42
abbrev NLc : List Str := ["_law_tuples_here", "_law_index", "_law_width", "_law_found", "_law_k", "_law_seat"]
theorem scLc : FnScope NLc ["_law_tuples_here", "_law_index"] (defScope sLChk) := ⟨rfl, rfl, rfl, by decide +kernel, rfl, by decide +kernel, by decide +kernel⟩
/-- the k-th check's j-th number, counted over the seats -/
def dueN (k j : Nat) (L : Tps) : Int := (L.map fun p => p.1 ^ k * p.2.getD j 0).sum
def dueL (wd k : Nat) (L : Tps) : List Int := (List.range wd).map fun j => dueN k j L
theorem plusL_at {rs os : List Int} {n : Int} {j : Nat} (h : rs.length = os.length) (hj : j < rs.length) : (plusL rs n os).getD j 0 = rs.getD j 0 + n * os.getD j 0 := by
  unfold plusL
  rw [List.getD_eq_getElem?_getD, List.getD_eq_getElem?_getD, List.getD_eq_getElem?_getD, List.getElem?_map]
  have e : (rs.zip os)[j]? = some (rs[j], os[j]'(by omega)) := List.getElem?_zip_eq_some.mpr ⟨List.getElem?_eq_getElem hj, List.getElem?_eq_getElem (by omega)⟩
  rw [e, List.getElem?_eq_getElem hj, List.getElem?_eq_getElem (show j < os.length by omega)]
  rfl
theorem fold_at {wd k j : Nat} (hj : j < wd) : ∀ (L : Tps) (acc : List Int), acc.length = wd → (∀ p ∈ L, p.2.length = wd) → (L.foldl (fun acc p => plusL acc (p.1 ^ k) p.2) acc).getD j 0 = acc.getD j 0 + dueN k j L
  | [], acc, _, _ => by
    show _ = _ + (0 : Int)
    rw [Int.add_zero]
    rfl
  | p :: L, acc, h, hl => by
    have hp := hl p (List.mem_cons_self ..)
    rw [List.foldl_cons, fold_at hj L _ (by rw [plusL_len (by rw [h, hp]), h]) fun q hq => hl q (List.mem_cons_of_mem _ hq), plusL_at (by rw [h, hp]) (by omega)]
    unfold dueN
    rw [List.map_cons, List.sum_cons]
    omega
theorem ext_getD {a b : List Int} {n : Nat} (ha : a.length = n) (hb : b.length = n) (h : ∀ j, j < n → a.getD j 0 = b.getD j 0) : a = b := by
  refine List.ext_getElem? fun j => ?_
  by_cases hj : j < n
  · have z := h j hj
    rw [List.getD_eq_getElem?_getD, List.getD_eq_getElem?_getD, List.getElem?_eq_getElem (by omega), List.getElem?_eq_getElem (by omega)] at z
    rw [List.getElem?_eq_getElem (by omega), List.getElem?_eq_getElem (by omega)]
    exact congrArg some z
  · rw [List.getElem?_eq_none (by omega), List.getElem?_eq_none (by omega)]
theorem check_due {wd k : Nat} {L : Tps} (h : ∀ p ∈ L, p.2.length = wd) : checkL wd k L = dueL wd k L := by
  refine ext_getD (checkL_len h) (by unfold dueL; rw [List.length_map, List.length_range]) fun j hj => ?_
  unfold checkL
  rw [fold_at hj L _ (List.length_replicate ..) h]
  have e1 : (List.replicate wd (0 : Int)).getD j 0 = 0 := by
    rw [List.getD_eq_getElem?_getD, List.getElem?_replicate, if_pos hj]
    rfl
  have e2 : (dueL wd k L).getD j 0 = dueN k j L := by
    unfold dueL
    rw [List.getD_eq_getElem?_getD, List.getElem?_map, List.getElem?_range hj]
    rfl
  rw [e1, e2, Int.zero_add]
def spLChk : Sp := fun vs H Q _ => ∃ (a : Addr) (k : Nat) (L : Tps) (wd : Nat), vs = [.ref a, .int k] ∧ TupD H a L ∧ TOk L wd ∧ k ≤ 4 ∧ ∀ v H', Same H H' → Row H' v (checkL wd k L) → Q v H'
theorem dp_ints' {K : PySem.W.Frag} {H : Hp} : ∀ ns : List Int, DpAll K H (ns.map V.int) (ns.map PyData.int)
  | [] => .nil
  | n :: ns => .cons (.int n) (dp_ints' ns)
theorem kvI_dp {K : PySem.W.Frag} {H : Hp} : ∀ {ks : List (Key × V)} {L : Tps}, KvI H ks L → DpAll K H (ks.map (·.2)) (L.map fun p => .tuple (p.2.map PyData.int))
  | _, _, .nil => .nil
  | _, _, .cons ⟨_, e, r, _⟩ t => .cons (e ▸ .tup (.inl r) (dp_ints' _)) (kvI_dp t)
theorem kvI_enc {H : Hp} : ∀ {ks : List (Key × V)} {L : Tps}, KvI H ks L → encI ks (L.map fun p => .tuple (p.2.map PyData.int)) = L.map fun p => PyData.tuple [.int p.1, .tuple (p.2.map PyData.int)]
  | _, _, .nil => rfl
  | _, _, .cons _ t => congrArg (_ :: ·) (kvI_enc t)
theorem alike_ints : ∀ a b : List Int, PySem.W.alikeAll (a.map PyData.int) (b.map PyData.int) = true
  | [], _ => by unfold PySem.W.alikeAll; rfl
  | _ :: _, [] => by kernel_rfl
  | x :: a, y :: b => by
    have e : PySem.W.alikeAll ((x :: a).map PyData.int) ((y :: b).map PyData.int) = (PySem.W.alike (.int x) (.int y) && PySem.W.alikeAll (a.map PyData.int) (b.map PyData.int)) := by kernel_rfl
    rw [e, alike_ints a b]
    kernel_rfl
theorem depth_ints : ∀ a : List Int, PyData.depthAll (a.map PyData.int) = 0
  | [] => rfl
  | x :: a => by
    have e : PyData.depthAll ((x :: a).map PyData.int) = max (PyData.int x).depth (PyData.depthAll (a.map PyData.int)) := rfl
    rw [e, depth_ints a]
    rfl
section
variable {P : Program} {w : World} {K : PySem.W.Frag} {mg : Str → Option Value} {base : Heap}
theorem ok_lchk {f f1 : Addr} {fd fd1 : FuncData} (F : Fun K "_law_check" "_law_check" sLChk f fd) (G1 : FnOk P w K mg base CX0 1 f1 fd1 ["_law_seat", "_law_index"] spRaised) (k1 : PySem.W.keepIn K (.ref f1) = true) (b1 : Binds K fd1 ["_law_seat", "_law_index"] []) (g1 : mg "_law_power" = some (.ref f1))
    (ml : mg "len" = none) (ms : mg "sorted" = none) (mr : mg "range" = none) (mu : mg "sum" = none) (mt : mg "tuple" = none) : FnOk P w K mg base CX0 2 f fd ["_law_tuples_here", "_law_index"] spLChk := by
  have S := scLc
  refine F.ok S (fun vs H Q E h => ?_) (fun cdv A outer s H vs Q E hr h => ?_)
  · obtain ⟨a, k, L, wd, rfl, _⟩ := h
    rfl
  · obtain ⟨a, k, L, wd, rfl, hT, ok, hk4, q⟩ := h
    have hu := hu_of hr
    refine ⟨_, (pss_cons (ps_set (i := 2) S.nd rfl (.inl rfl) (pe_callB call_len_seq (by rfl) ml PySem.boot_len (pa_cons (pe_ix (show IxR _ (rIxT K) from ix_tup) (pe_ix (show IxR _ (rIxL K) from ix_list) (pe_sortItems rfl hr.units (pv 0) (by rfl) ms (by decide +kernel)) pe_int (fun _ _ => rfl)) pe_int (fun _ _ => rfl)) pa_nil)))
      (pss_cons (ps_set (i := 3) S.nd rfl (.inl rfl) (pe_lst pa_nil))
      (pss_cons (ps_for PassesOwn.never rfl (pi_range1 (by rfl) mr (pa_cons (pv 2) pa_nil)) (pg_name (i := 4) S.nd rfl (.inr rfl))
        (pss_one (ps_expr (pe_bm PySem.F.plainAttrs_list PySem.F.slot_list_append PySem.F.type_list_append mt_append (pv 3) (pa_cons (pe_lock (pe_callB (show CallR _ (.builtin "sum") (rSum K) from cr_sum (by rfl)) (by rfl) mu (by decide +kernel) (pa_cons (pe_lc (own := [("_law_seat", 5)]) (g := gName 5) rfl S.nd (pi_keys (pv 0)) (blkOk_by (N := NLc) (sc := defScope sLChk) (by decide +kernel)) (fun _ _ _ _ _ => pg_name (i := 5) S.nd rfl (.inl rfl)) (fun _ _ _ _ _ => pts_nil)
          (fun _ _ _ _ _ => pe_op op_mul (pe_call G1 hr (by rfl) g1 k1 b1 .nil pass0 (pa_cons (pv 5) (pa_cons (pv 1) pa_nil))) (pe_ix (show IxR _ (rIxT K) from ix_tup) (pe_dget hu (pv 0) (pv 5) (fun _ _ => rfl)) (pv 4) (fun _ _ => rfl)))) pa_nil))) pa_nil)))))
      (pss_one (ps_ret (pe_callTy (show CallR _ (.type "tuple") (rTupA K) from call_tuple_of) (by rfl) mt (by decide +kernel) (pa_cons (pv 3) pa_nil))))))), ?_⟩
    obtain ⟨ks, hd, hkv⟩ := id hT
    have hnd := hkv.nd ok.nd
    have w45 := ok.w45
    have lks : ks.length ≤ 9 := by rw [hkv.len]; exact ok.n9
    refine ⟨_, rfl, a, ks, L.map (fun p => .tuple (p.2.map PyData.int)), rfl, hd, fun H' s' => kvI_dp (hkv.same s'), ?_, ?_, ?_, fun H1 ts us p s1 nts hts hp np => ?_⟩
    · rw [kvI_enc hkv]
      intro x hx y hy
      obtain ⟨p, _, rfl⟩ := List.mem_map.mp hx
      obtain ⟨r, _, rfl⟩ := List.mem_map.mp hy
      have e : PySem.W.alike (.tuple [.int p.1, .tuple (p.2.map PyData.int)]) (.tuple [.int r.1, .tuple (r.2.map PyData.int)]) = (PySem.W.alike (.int p.1) (.int r.1) && (PySem.W.alikeAll (p.2.map PyData.int) (r.2.map PyData.int) && PySem.W.alikeAll [] [])) := by kernel_rfl
      rw [e, alike_ints]
      kernel_rfl
    · rw [kvI_enc hkv]
      refine .inl fun x hx => ?_
      obtain ⟨p, _, rfl⟩ := List.mem_map.mp hx
      exact ⟨_, _, rfl⟩
    · rw [kvI_enc hkv]
      intro x hx
      obtain ⟨p, _, rfl⟩ := List.mem_map.mp hx
      have e : (PyData.tuple [.int p.1, .tuple (p.2.map PyData.int)]).depth = max (PyData.int p.1).depth (max (PyData.depthAll (p.2.map PyData.int) + 1) 0) + 1 := rfl
      rw [e, depth_ints]
      show max 0 (max (0 + 1) 0) + 1 ≤ 8
      decide
    have lt : ts.length = ks.length := Paired.length hts
    have lu : us.length = ts.length := hp.length_eq
    have n1 := ok.n1
    rw [← hkv.len] at n1
    obtain ⟨u0, ur, rfl⟩ : ∃ u0 ur, us = u0 :: ur := by
      cases us with
      | nil => simp only [List.length_nil] at lu; omega
      | cons a b => exact ⟨a, b, rfl⟩
    obtain ⟨i0, hi0⟩ := List.getElem?_of_mem (hp.mem_iff.mp (List.mem_cons_self ..))
    obtain ⟨⟨key, v0⟩, hkv0, ht0⟩ := LiI.paired_get hts hi0
    obtain ⟨x0, ns0, hl0, rfl, a0, rfl, r0, z0⟩ := hkv.at_ hkv0
    have sp : Same H1 (L2.upd H1 p (.lst ((u0 :: ur).map V.ref))) := same_new np
    have s01 : Same H (L2.upd H1 p (.lst ((u0 :: ur).map V.ref))) := Same.trans s1 sp
    refine ⟨p, _, 0, .ref u0, rfl, rfl, SqL.of upd_same, at_of (j := 0) rfl rfl, u0, _, 1, .ref a0, rfl, rfl, .inl (.inl (sp _ _ ht0)), at_of (j := 1) rfl rfl, a0, _, rfl, .inr (.inl (Rd.same r0 s01)), ?_⟩
    rw [List.length_map, ok.ww _ (List.mem_of_getElem? hl0)]
    generalize L2.upd H1 p (.lst ((u0 :: ur).map V.ref)) = H2 at s01 ⊢
    refine ⟨by show 0 ≤ sizeLine; decide, fun fo nfo => ?_⟩
    have nH : H fo = none := s01.free nfo
    refine ⟨_, rfl, wd, rfl, by omega, by omega, for_range (fun i σ H3 => ∃ y4, σ = [some (.ref a), some (.int k), some (.int wd), some (.ref fo), y4, none] ∧ Same H H3 ∧ H3 fo = some (.lst (((List.range i).map fun j => dueN k j L).map V.int)))
      ⟨none, rfl, s01.trans (same_new nfo), upd_same⟩ ?_ ?_⟩
    · rintro i σ H3 hi ⟨y4, rfl, s3, ef⟩
      refine ⟨_, rfl, .inl ⟨rfl, _, SqL.of ef⟩, ?_⟩
      have hd3 := s3 _ _ hd
      have hkv3 := hkv.same s3
      refine keys_read (vs := (L.map fun p => p.1 ^ k * p.2.getD i 0).map V.int) rfl hd3 (by omega) (by rw [List.length_map, List.length_map, hkv.len]) ?_ ?_ (fun x => rfl)
      · intro od j b x key H4 hkx hb s4 R hR
        obtain ⟨seat, ns, hl, rfl, hr1⟩ := hkv3.at_ hkx
        have mem := List.mem_of_getElem? hl
        have hs9 := ok.st _ mem
        have pw := pow_small hs9.1 hs9.2 hk4
        have hlen : ns.length = wd := ok.ww _ mem
        have hrow : Row H4 x ns := (hr1.lock hd3).same s4
        obtain ⟨ra, rfl, rr, _⟩ := hrow
        have hi2 : i < ns.length := by omega
        refine ⟨_, rfl, _, rfl, seat, k, rfl, by omega, by omega, by omega, ?_⟩
        refine ⟨_, rfl, _, rfl, a, _, rfl, .inl ⟨ks, .inl seat, .inr ⟨od, s4 _ _ upd_same⟩, rfl, (valI_nodup hnd (List.mem_of_getElem? hkx)).symm⟩, _, rfl, ra, _, _, .int ns[i], rfl, rfl, .inl rr, ?_, _, _, rfl, rfl, .inl ⟨pw.1, pw.2⟩, ?_⟩
        · exact at_of (j := i) (by omega) (by rw [List.getElem?_map, List.getElem?_eq_getElem hi2]; rfl)
        · have eb : b = .int (seat ^ k * ns[i]) := by
            rw [List.getElem?_map, List.getElem?_map, hl] at hb
            have z := (Option.some.inj hb).symm
            rw [z]
            show V.int (seat ^ k * ns.getD i 0) = _
            rw [List.getD_eq_getElem?_getD, List.getElem?_eq_getElem hi2]
            rfl
          show R (.int (seat ^ k * ns[i])) H4
          rw [← eb]
          exact hR H4 (Same.refl _)
      · intro od D H4 s4 hD
        have fz := s4 _ _ upd_same
        refine ⟨D, _, rfl, SqL.of hD, fz, ?_⟩
        have sU : Same H3 (L2.upd H4 a (.dK ks)) := same_unlock hd3 s4
        generalize L2.upd H4 a (.dK ks) = H5 at sU ⊢
        have ef5 := sU _ _ ef
        refine ⟨fo, _, _, rfl, rfl, ef5, by rw [List.length_map, List.length_map, List.length_range]; exact small1000 (by omega), _, rfl, same_own nH (s3.trans sU), ?_⟩
        rw [upd_same, List.range_succ, List.map_append, List.map_append]
        rfl
    · rintro σ H3 ⟨y4, rfl, s3, ef⟩
      rw [Int.toNat_natCast] at ef
      refine ⟨_, rfl, fo, _, rfl, .inl ⟨SqL.of ef, fun tp ntp => q _ _ (s3.trans (same_new ntp)) ⟨tp, rfl, .inl ?_, ?_⟩⟩⟩
      · rw [check_due ok.ww]
        exact upd_same
      · rw [checkL_len ok.ww]
        exact w45
end
end Kn
-- part TAlg
set_option maxHeartbeats 4000000
/-! A change of one seat changes each check by its share. -/
namespace Kn
open PySem PySem.Spec PyProof.Rows L2 Err
def oD : Option (List Int) → Nat → Int
  | none, _ => 0
  | some ns, j => ns.getD j 0
/-- from L to L' at seat s: out goes ob, in comes ol -/
def Chg (L L' : Tps) (s : Int) (ob ol : Option (List Int)) : Prop := ∀ k j : Nat, dueN k j L' = dueN k j L - s ^ k * oD ob j + s ^ k * oD ol j
theorem Chg.symm {L L' : Tps} {s : Int} {ob ol : Option (List Int)} (h : Chg L L' s ob ol) : Chg L' L s ol ob := fun k j => by
  rw [h k j]
  omega
theorem due_app (k j : Nat) (A B : Tps) : dueN k j (A ++ B) = dueN k j A + dueN k j B := by
  unfold dueN
  rw [List.map_append, List.sum_append]
theorem due_cons (k j : Nat) (s : Int) (b : List Int) (B : Tps) : dueN k j ((s, b) :: B) = s ^ k * b.getD j 0 + dueN k j B := by
  unfold dueN
  rw [List.map_cons, List.sum_cons]
theorem chg_drop (A B : Tps) (s : Int) (b : List Int) : Chg (A ++ (s, b) :: B) (A ++ B) s (some b) none := fun k j => by
  rw [due_app, due_app, due_cons]
  show _ = _ - s ^ k * b.getD j 0 + s ^ k * 0
  rw [Int.mul_zero]
  omega
theorem chg_put (A B : Tps) (s : Int) (b l : List Int) : Chg (A ++ (s, b) :: B) (A ++ (s, l) :: B) s (some b) (some l) := fun k j => by
  rw [due_app, due_app, due_cons, due_cons]
  show _ = _ - s ^ k * b.getD j 0 + s ^ k * l.getD j 0
  omega
theorem chg_new (A : Tps) (s : Int) (l : List Int) : Chg A (A ++ [(s, l)]) s none (some l) := fun k j => by
  rw [due_app, due_cons]
  show _ + (_ + (0 : Int)) = _ - s ^ k * 0 + s ^ k * l.getD j 0
  rw [Int.mul_zero]
  omega
theorem chg_none (A : Tps) (s : Int) : Chg A A s none none := fun k j => by
  show _ = _ - s ^ k * 0 + s ^ k * 0
  rw [Int.mul_zero]
  omega
theorem chg_ok {L L' : Tps} {s : Int} {ob ol : Option (List Int)} {wd : Nat} (h : Chg L L' s ob ol) (hL : ∀ p ∈ L, p.2.length = wd) (hL' : ∀ p ∈ L', p.2.length = wd) (hb : ∀ r, ob = some r → r.length = wd) (hl : ∀ r, ol = some r → r.length = wd) (k : Nat) :
    chgL s k ol (chgB s k ob (checkL wd k L)) = checkL wd k L' := by
  have l0 : (checkL wd k L).length = wd := checkL_len hL
  have l1 : (chgB s k ob (checkL wd k L)).length = wd := by
    cases ob with
    | none => exact l0
    | some b => show (plusL _ _ _).length = wd; rw [plusL_len (by rw [l0, hb b rfl]), l0]
  have l2 : (chgL s k ol (chgB s k ob (checkL wd k L))).length = wd := by
    cases ol with
    | none => exact l1
    | some l => show (plusL _ _ _).length = wd; rw [plusL_len (by rw [l1, hl l rfl]), l1]
  have dd : ∀ {M : Tps} (hM : ∀ p ∈ M, p.2.length = wd) {j : Nat}, j < wd → (checkL wd k M).getD j 0 = dueN k j M := fun {M} hM {j} hj => by
    rw [check_due hM]
    unfold dueL
    rw [List.getD_eq_getElem?_getD, List.getElem?_map, List.getElem?_range hj]
    rfl
  refine ext_getD l2 (checkL_len hL') fun j hj => ?_
  rw [dd hL' hj, h k j]
  have e1 : (chgB s k ob (checkL wd k L)).getD j 0 = dueN k j L - s ^ k * oD ob j := by
    cases ob with
    | none =>
      show (checkL wd k L).getD j 0 = _ - s ^ k * 0
      rw [dd hL hj, Int.mul_zero, Int.sub_zero]
    | some b =>
      show (plusL _ _ _).getD j 0 = _ - s ^ k * b.getD j 0
      rw [plusL_at (by rw [l0, hb b rfl]) (by omega), dd hL hj, Int.neg_mul]
      omega
  cases ol with
  | none =>
    show (chgB s k ob (checkL wd k L)).getD j 0 = _ + s ^ k * 0
    rw [e1, Int.mul_zero, Int.add_zero]
  | some l =>
    show (plusL _ _ _).getD j 0 = _ + s ^ k * l.getD j 0
    rw [plusL_at (by rw [l1, hl l rfl]) (by omega), e1]
/-- all checks after a change -/
theorem after_ok {L L' : Tps} {s : Int} {ob ol : Option (List Int)} {wd n : Nat} (h : Chg L L' s ob ol) (hL : ∀ p ∈ L, p.2.length = wd) (hL' : ∀ p ∈ L', p.2.length = wd) (hb : ∀ r, ob = some r → r.length = wd) (hl : ∀ r, ol = some r → r.length = wd) :
    afterN s ob ol ((List.range n).map fun k => checkL wd k L) n = (List.range n).map fun k => checkL wd k L' := by
  unfold afterN
  refine List.map_congr_left fun k hk => ?_
  have e : ((List.range n).map fun k => checkL wd k L).getD k [] = checkL wd k L := by
    rw [List.getD_eq_getElem?_getD, List.getElem?_map, List.getElem?_range (List.mem_range.mp hk)]
    rfl
  rw [e, chg_ok h hL hL' hb hl]
end Kn
-- part TCnt
set_option maxHeartbeats 4000000
/-! xs.count(y), flat items. -/
namespace L2
open PySem PySem.Spec PyProof.Rows
section
variable {X : Cx}
def rCntF (K : PySem.W.Frag) : V → List V → Hp → VK → Prop := fun x xs H Q => ∃ (p : Addr) (ys : List V) (y : V), x = .ref p ∧ xs = [y] ∧ SqL K H p ys ∧ flatV y = true ∧ ys.all flatV = true ∧ Q (.int ((ys.countP fun z => eqV z y : Nat) : Int)) H
theorem count_flat {y : V} : ∀ {ys : List V} {us : List Value}, Vals ys us → ys.all flatV = true → us.countP (eqU y) = ys.countP fun z => eqV z y
  | _, _, .nil, _ => rfl
  | z :: ys, u :: us, .cons r t, h => by
    rw [List.all_cons, Bool.and_eq_true] at h
    rw [List.countP_cons, List.countP_cons, count_flat t h.2, eqU_of r h.1]
theorem mt_lcountF : MtR X "list.count" (rCntF X.K) := by
  intro pins s σ H x xs v us Q I rx rxs h
  obtain ⟨p, ys, y, rfl, rfl, hs, fy, fys, q⟩ := h
  cases rx
  cases rxs with
  | cons ry rt =>
    rename_i uy ut
    cases rt
    obtain ⟨its, rv, ⟨⟨cls, dd, data, sl⟩, n, ho, hc, hdn, hd⟩, hlen⟩ := I.list hs
    simp only at hc hd
    subst hc hd
    refine call_meets PySem.F.slot_list_count ⟨_, ho, rfl⟩ PySem.F.entry_list_count (PySem.F.args_list_count_2 _ _)
      (SeqAt.list_countAt p its.toArray n dd sl uy (eqU y)) ⟨ho, fun u' hu' => mem_eqAt ry fy rv fys u' (by simpa using hu'), ?_⟩
    have ec : its.toArray.toList.countP (eqU y) = ys.countP fun z => eqV z y := count_flat rv fys
    refine ⟨.int ((ys.countP fun z => eqV z y : Nat) : Int), H, I.tok _, ⟨s.toks, ?_⟩, q⟩
    show Value.int ((its.toArray.toList.countP (eqU y) : Nat) : Int) s.toks = _
    rw [ec]
end
end L2
-- part TWord
set_option maxHeartbeats 4000000
/-! _law_word. -/
namespace Kn
open PySem PySem.Spec PyProof.Rows L2 Err
abbrev sLWord : Stmt := topS 43
theorem scLw : FnScope ["_law_error", "_law_marks"] ["_law_error"] (defScope sLWord) := ⟨rfl, rfl, rfl, by decide +kernel, rfl, by decide +kernel, by decide +kernel⟩
/-- the four classes -/
structure Four (K : PySem.W.Frag) (mg : Str → Option Value) (CS CT CC CK CE : Addr) : Prop where
  t : EC K mg CS "BadTuples" CT
  c : EC K mg CS "BadCount" CC
  k : EC K mg CS "BadChecks" CK
  e : EC K mg CS "BadSeat" CE
  kit : ∀ (i j : Nat) (C D : Addr), [CT, CC, CK, CE][i]? = some C → [CT, CC, CK, CE][j]? = some D → PySem.W.kitOne K (.ref C) (.ref D) = some (decide (i = j))
def words : List Str := ["tuples", "count", "checks", "seat"]
def spWord (CT CC CK CE : Addr) : Sp := fun vs H Q _ => ∃ (a C : Addr) (i : Nat) (x : Str), vs = [.ref a] ∧ QA0 H a C ∧ [CT, CC, CK, CE][i]? = some C ∧ words[i]? = some x ∧ ∀ H', Same H H' → Q (.str x) H'
section
variable {P : Program} {w : World} {K : PySem.W.Frag} {mg : Str → Option Value} {base : Heap}
theorem ok_word {f CS CT CC CK CE : Addr} {fd : FuncData} (F : Fun K "_law_word" "_law_word" sLWord f fd) (T : Four K mg CS CT CC CK CE) (mi : mg "isinstance" = none) : FnOk P w K mg base CX0 1 f fd ["_law_error"] (spWord CT CC CK CE) := by
  have S := scLw
  refine F.ok S (fun vs H Q E h => ?_) (fun cdv A outer s H vs Q E hr h => ?_)
  · obtain ⟨a, C, i, x, rfl, _⟩ := h
    rfl
  · obtain ⟨a, C, i, x, rfl, qa, hC, hx, q⟩ := h
    refine ⟨_, (pss_cons (ps_set (i := 1) S.nd rfl (.inl rfl) (pe_lst (pa_cons (pe_callB (show CallR _ (.builtin "isinstance") (rIs0 K) from call_is0) (by rfl) mi PyProof.Rows.boot_isinstance (pa_cons (pv 0) (pa_cons (pe_glob (v := .ref CT) (by rfl) T.t.glob rfl) pa_nil))) (pa_cons (pe_callB (show CallR _ (.builtin "isinstance") (rIs0 K) from call_is0) (by rfl) mi PyProof.Rows.boot_isinstance (pa_cons (pv 0) (pa_cons (pe_glob (v := .ref CC) (by rfl) T.c.glob rfl) pa_nil))) pa_nil))))
      (pss_cons (ps_set (i := 1) S.nd rfl (.inl rfl) (pe_op op_cat (pv 1) (pe_lst (pa_cons (pe_callB (show CallR _ (.builtin "isinstance") (rIs0 K) from call_is0) (by rfl) mi PyProof.Rows.boot_isinstance (pa_cons (pv 0) (pa_cons (pe_glob (v := .ref CK) (by rfl) T.k.glob rfl) pa_nil))) (pa_cons (pe_callB (show CallR _ (.builtin "isinstance") (rIs0 K) from call_is0) (by rfl) mi PyProof.Rows.boot_isinstance (pa_cons (pv 0) (pa_cons (pe_glob (v := .ref CE) (by rfl) T.e.glob rfl) pa_nil))) pa_nil)))))
      (pss_cons (ps_if (pt_cmpR op_isN (pv 0) pe_non (nomark _)) (pss_one (ps_ret pe_str)) pss_nil)
      (pss_one (ps_ret (pe_ifExp (pt_cmpR op_eq (pe_bm PySem.F.plainAttrs_list PySem.F.slot_list_count PySem.F.type_list_count mt_lcountF (pv 1) (pa_cons pe_bl pa_nil)) pe_int (nomark _)) (pe_ix (show IxR _ (rIxL K) from ix_list) (pe_lst (pa_cons pe_str (pa_cons pe_str (pa_cons pe_str (pa_cons pe_str pa_nil))))) (pe_bm PySem.F.plainAttrs_list PySem.F.slot_list_index PySem.F.type_list_index mt_index (pv 1) (pa_cons pe_bl pa_nil)) (fun _ _ => rfl)) pe_str)))))), ?_⟩
    have is : Isi K C := by
      have i4 : i < 4 := (List.getElem?_eq_some_iff.mp hC).1
      rcases (show i = 0 ∨ i = 1 ∨ i = 2 ∨ i = 3 by omega) with rfl | rfl | rfl | rfl <;> cases hC
      · exact T.t.is
      · exact T.c.is
      · exact T.k.is
      · exact T.e.is
    refine ⟨_, rfl, a, C, .ref CT, .ref CT, _, rfl, qa, is, .own CT, T.kit i 0 C CT hC rfl, _, rfl, a, C, .ref CC, .ref CC, _, rfl, qa, is, .own CC, T.kit i 1 C CC hC rfl, by show 2 ≤ sizeLine; decide, fun l1 n1 => ?_⟩
    have s1 : Same H (L2.upd H l1 (.lst [.bl (decide (i = 0)), .bl (decide (i = 1))])) := same_new n1
    have e1 : (L2.upd H l1 (.lst [.bl (decide (i = 0)), .bl (decide (i = 1))])) l1 = some (.lst [.bl (decide (i = 0)), .bl (decide (i = 1))]) := upd_same
    generalize L2.upd H l1 (.lst [.bl (decide (i = 0)), .bl (decide (i = 1))]) = H1 at s1 e1 ⊢
    have qa1 : QA0 H1 a C := s1 _ _ qa
    refine ⟨_, rfl, _, rfl, a, C, .ref CK, .ref CK, _, rfl, qa1, is, .own CK, T.kit i 2 C CK hC rfl, _, rfl, a, C, .ref CE, .ref CE, _, rfl, qa1, is, .own CE, T.kit i 3 C CE hC rfl, by show 2 ≤ sizeLine; decide, fun l2 n2 => ?_⟩
    have s2 : Same H1 (L2.upd H1 l2 (.lst [.bl (decide (i = 2)), .bl (decide (i = 3))])) := same_new n2
    have e2 : (L2.upd H1 l2 (.lst [.bl (decide (i = 2)), .bl (decide (i = 3))])) l2 = some (.lst [.bl (decide (i = 2)), .bl (decide (i = 3))]) := upd_same
    generalize L2.upd H1 l2 (.lst [.bl (decide (i = 2)), .bl (decide (i = 3))]) = H2 at s2 e2 ⊢
    refine ⟨l1, l2, _, _, rfl, rfl, s2 _ _ e1, e2, by show 4 ≤ sizeLine; decide, fun p np => ?_⟩
    have s3 : Same H2 (L2.upd H2 p (.lst ([.bl (decide (i = 0)), .bl (decide (i = 1))] ++ [.bl (decide (i = 2)), .bl (decide (i = 3))]))) := same_new np
    have e3 : (L2.upd H2 p (.lst ([.bl (decide (i = 0)), .bl (decide (i = 1))] ++ [.bl (decide (i = 2)), .bl (decide (i = 3))]))) p = some (.lst [.bl (decide (i = 0)), .bl (decide (i = 1)), .bl (decide (i = 2)), .bl (decide (i = 3))]) := upd_same
    generalize L2.upd H2 p (.lst ([.bl (decide (i = 0)), .bl (decide (i = 1))] ++ [.bl (decide (i = 2)), .bl (decide (i = 3))])) = H3 at s3 e3 ⊢
    have s03 := s1.trans (s2.trans s3)
    refine ⟨_, rfl, rfl, _, rfl, ?_⟩
    rw [show decide (V.ref a = V.non) = false from decide_eq_false fun z => by cases z]
    refine iteF ?_
    have i4 : i < 4 := (List.getElem?_eq_some_iff.mp hC).1
    have fin : ∀ (H' : Hp) (l : Addr), Same H3 H' → H' l = some (.lst [.str "tuples", .str "count", .str "checks", .str "seat"]) → ∀ j : Nat, j = i → rIxL K (.ref l) (.int (j : Nat)) H' Q := fun H' l s' e j ej => by
      subst ej
      refine ⟨l, _, _, .str x, rfl, rfl, SqL.of e, ?_, q H' (s03.trans s')⟩
      refine at_of (j := j) rfl ?_
      have z : ([V.str "tuples", .str "count", .str "checks", .str "seat"] : List V)[j]? = (words[j]?).map V.str := by
        rcases (show j = 0 ∨ j = 1 ∨ j = 2 ∨ j = 3 by omega) with rfl | rfl | rfl | rfl <;> rfl
      rw [z, hx]
      rfl
    refine ⟨_, rfl, .inl ⟨rfl, _, SqL.of e3⟩, p, _, .bl true, rfl, rfl, SqL.of e3, rfl, rfl, rfl, _, rfl, ?_⟩
    have cnt : decide (V.int ((([V.bl (decide (i = 0)), .bl (decide (i = 1)), .bl (decide (i = 2)), .bl (decide (i = 3))] : List V).countP fun z => eqV z (.bl true) : Nat) : Int) = V.int 1) = true := by
      rcases (show i = 0 ∨ i = 1 ∨ i = 2 ∨ i = 3 by omega) with rfl | rfl | rfl | rfl <;> decide
    rw [cnt]
    refine iteT ⟨by show 4 ≤ sizeLine; decide, fun l nl => ?_⟩
    have s4 : Same H3 (L2.upd H3 l (.lst [.str "tuples", .str "count", .str "checks", .str "seat"])) := same_new nl
    refine ⟨_, rfl, .inl ⟨rfl, _, SqL.of (s4 _ _ e3)⟩, p, _, .bl true, i, .bl true, rfl, rfl, SqL.of (s4 _ _ e3), rfl, rfl, ?_, rfl, ?_, fin _ l s4 upd_same i rfl⟩
    · rcases (show i = 0 ∨ i = 1 ∨ i = 2 ∨ i = 3 by omega) with rfl | rfl | rfl | rfl <;> rfl
    · intro m z' hm hz
      rcases (show i = 0 ∨ i = 1 ∨ i = 2 ∨ i = 3 by omega) with rfl | rfl | rfl | rfl
      · omega
      · obtain rfl : m = 0 := by omega
        cases hz
        rfl
      · rcases (show m = 0 ∨ m = 1 by omega) with rfl | rfl <;> cases hz <;> rfl
      · rcases (show m = 0 ∨ m = 1 ∨ m = 2 by omega) with rfl | rfl | rfl <;> cases hz <;> rfl
end
end Kn
-- part TBd
set_option maxHeartbeats 4000000
/-! A dict whose one key is True: made by a display. -/
namespace L2
open PySem PySem.Spec PyProof.Rows PySem.W
def isTrue : Value → Bool
  | .bool true => true
  | _ => false
theorem isTrue_eq {v : Value} (h : isTrue v = true) : v = .bool true := by
  unfold isTrue at h
  split at h
  · rfl
  · cases h
/-- one key: True -/
def trueKind (prog : Program) (w : World) : PySem.KeyKind prog w Unit where
  is := fun _ v => isTrue v
  hash := fun _ => (leafKind prog w).hash (.num 1)
  inj := fun _ _ _ _ _ => rfl
  byValue := fun _ v h => (leafKind prog w).byValue (.num 1) v (by rw [isTrue_eq h]; rfl)
  pyHash := fun {A E s k v Q} hv h => (leafKind prog w).pyHash (k := .num 1) (by rw [isTrue_eq hv]; rfl) h
  eqBool := fun {A E s a b u v Q} hu hv h => (leafKind prog w).eqBool (a := .num 1) (b := .num 1) (by rw [isTrue_eq hu]; rfl) (by rw [isTrue_eq hv]; rfl) h
  «strs» := fun k x t v h => absurd h Bool.false_ne_true
/-- what the object says -/
structure TdF (P : Program) (w : World) (o : Obj) : Prop where
  ex : ∃ (v : Value) (es : Array DictEntry) (ep : Nat), o.ExactDict ∧ o.data = .dict es ep ∧ KeysOf (trueKind P w) es ∧ Pairs (trueKind P w) es.toList [((), v)]
def tdO (a : Addr) (o : Obj) : HO := .ext fun h => h.get? a = some o
def TdAt (P : Program) (w : World) (H : Hp) (a : Addr) : Prop := ∃ o, H a = some (tdO a o) ∧ (a == sysModules) = false ∧ TdF P w o
/-- {True: v} -/
def tDispT (P : Program) (w : World) (tk tv : TE) : TE := fun σ H Q => ∀ p, H p = none → tPairs [(tk, tv)] σ (upd H p (.dK [])) fun ps H2 => ∃ y, ps = [(V.bl true, y)] ∧ H2 p = some (.dK []) ∧ ∀ o, (p == sysModules) = false → TdF P w o → Q (.ref p) (upd H2 p (tdO p o))
theorem lift0 {P : Program} {w : World} {h : Heap} {a : Addr} (d : h.DictOf (mixKind P w) a []) : h.DictOf (trueKind P w) a [] := by
  obtain ⟨o, es, ep, ho, hx, hdt, hk, hp, hn⟩ := d
  have e : es.toList = [] := by
    generalize es.toList = l at hp
    cases hp
    rfl
  refine ⟨o, es, ep, ho, hx, hdt, fun q hq => ?_, by rw [e]; exact .nil, List.nodup_nil⟩
  have z : q ∈ es.toList := by simpa using hq
  rw [e] at z
  cases z
theorem pe_dispT {X : Cx} {pos : Pos} {k v : Expr} {tk tv : TE} (hk : PE X k tk) (hv : PE X v tv) : PE X (.Dict [some k] [v] pos) (tDispT X.prog X.w tk tv) := by
  refine ⟨fun pins s σ H Q I q => ?_⟩
  have hn := I.hok.fresh (Nat.le_refl s.heap.objs.size)
  have I1 := I.laid (a := s.heap.objs.size) (o := .dK []) (h' := s.heap.push { cls := .type "dict", data := .dict #[] }) (t' := s.toks) (fun _ _ q => Heap.get?_push_of_some _ q) (Nat.le_refl _) (dk_empty s.heap I.big)
  refine wpAny_Dict_walk (knd := trueKind X.prog X.w) rfl rfl (by simp) (by show 1 ≤ 15; omega) (thn ((pps_cons hk hv pps_nil).run pins _ σ _ _ I1 (q _ hn)) fun ws s2 ⟨ps, H2, I2, rel, y, e1, e3, q2⟩ => ?_)
  subst e1
  obtain ⟨b1, b2, rfl, hb, hy⟩ : ∃ b1 b2, ws = [(b1, b2)] ∧ RelV (.bl true) b1 ∧ RelV y b2 := by
    cases rel with
    | @cons p b as bs h t =>
      cases t
      exact ⟨b.1, b.2, rfl, h.1, h.2⟩
  have hb : b1 = Value.bool true := hb
  obtain ⟨z, hd, vs0, r0, dd0⟩ := dk_of I2.hok e3
  cases r0
  refine ⟨[((), b2)], ⟨by rw [hb]; rfl, rfl, True.intro⟩, lift0 dd0, fun h' dd' hs => ?_⟩
  obtain ⟨ob, es, ep, hob, hx, hdt, hkk, hp, hnn⟩ := dd'
  have he : ∃ q, h'.get? s.heap.objs.size = some q := ⟨ob, hob⟩
  refine ⟨.ref s.heap.objs.size, _, d_write I2 (by rw [e3]; exact True.intro) hs he (ob := tdO s.heap.objs.size ob) ⟨hob, ⟨ob, hob⟩, fun h1 h2 e st => st ob e⟩, rfl, q2 ob hd ⟨b2, es, ep, hx, hdt, hkk, hp⟩⟩
end L2
-- part TBk
set_option maxHeartbeats 4000000
/-! A dict whose one key is True: isinstance, len, its keys walked. -/
namespace L2
open PySem PySem.Spec PyProof.Rows PySem.W
theorem TdAt.same {P : Program} {w : World} {H H' : Hp} {a : Addr} (h : TdAt P w H a) (s : ∀ b o, H b = some o → H' b = some o) : TdAt P w H' a := by
  obtain ⟨o, e, r⟩ := h
  exact ⟨o, s _ _ e, r⟩
section
variable {X : Cx} {pins : List (Addr × Obj)} {σ : St} {H : Hp} {s : Shared} {a : Addr} {o : Obj}
theorem td_get (I : Inv X pins σ H s) (h : H a = some (tdO a o)) : s.heap.get? a = some o := (I.hok _ _ h).1
theorem td_at (I : Inv X pins σ H s) (h : H a = some (tdO a o)) (f : TdF X.prog X.w o) : ∃ (v : Value) (ep : Nat) (es : Array DictEntry), o.data = .dict es ep ∧ es.size = 1 ∧ o.ExactDict ∧ s.heap.DictAt (trueKind X.prog X.w) a [((), v)] ep := by
  obtain ⟨v, es, ep, e3, e4, e5, e6⟩ := f.ex
  refine ⟨v, ep, es, e4, ?_, e3, o, es, td_get I h, e3, e4, e5, e6, by simp⟩
  have z := e6.length
  rw [← Array.length_toList, z]
  rfl
def rIsT0 (K : PySem.W.Frag) (P : Program) (w : World) : List V → Hp → VK → Prop := fun xs H Q => ∃ (a : Addr) (c : V) (cv : Value) (b : Bool), xs = [.ref a, c] ∧ TdAt P w H a ∧ ClsV c cv ∧ PySem.W.kitOne K (.type "dict") cv = some b ∧ Q (.bl b) H
theorem call_isT0 : CallR X (.builtin "isinstance") (rIsT0 X.K X.prog X.w) := by
  rintro pins s σ H xs us Q I r ⟨a, c, cv, b, rfl, ⟨o, ha, _, f⟩, hc, e, q⟩
  obtain ⟨u1, u2, rfl, r1, r2⟩ := vals2 r
  cases (show u1 = Value.ref a from r1)
  cases hc.eq r2
  obtain ⟨v, ep, es, _, _, hx, _⟩ := td_at I ha f
  exact PySem.W.kia_one PySem.W.kitx_dict I.kIn ⟨o, td_get I ha, hx.1⟩ e (fun z => nomatch z) fun tk => ⟨.bl b, H, I.tok tk, rfl, q⟩
def rLenT0 (P : Program) (w : World) : List V → Hp → VK → Prop := fun xs H Q => ∃ (a : Addr), xs = [.ref a] ∧ TdAt P w H a ∧ Q (.int 1) H
theorem call_lenT0 : CallR X (.builtin "len") (rLenT0 X.prog X.w) := by
  rintro pins s σ H xs us Q I r ⟨a, rfl, ⟨o, ha, hd, f⟩, q⟩
  obtain ⟨u, rfl, ru⟩ := vals1 r
  cases (show u = Value.ref a from ru)
  obtain ⟨v, ep, es, _, _, _, dat⟩ := td_at I ha f
  exact call_len_dict hd dat.dictOf (by show (1 : Int) < 2 ^ 63; decide) ⟨.int 1, H, I.tok _, ⟨_, rfl⟩, q⟩
def ItT0 (P : Program) (w : World) (a : Addr) (o : Obj) : It :=
  ⟨fun i H => H a = some (tdO a o) ∧ TdF P w o ∧ i < 1, fun i H x H' => H' = H ∧ x = .bl true, fun i H => H a = some (tdO a o) ∧ TdF P w o ∧ 1 ≤ i⟩
theorem turn_T0 {P : Program} {w : World} {K : PySem.W.Frag} {tg : Expr} {es : Array DictEntry} {ep : Nat} (it : Addr) (hod : o.data = .dict es ep) : Turn P w K tg (ItT0 P w a o) [it] it (fun i h => h.IsKeyIter it a i 1 ep) where
  mem := by simp
  obj := fun i h st b hb => by
    obtain rfl : b = it := by simpa using hb
    obtain ⟨oi, e, c, dd⟩ := st
    exact ⟨oi, e, fun v z => by rw [dd] at z; cases z⟩
  keep := fun i h h' st k => by
    obtain ⟨oi, e, r⟩ := st
    exact ⟨oi, k it (by simp) oi e, r⟩
  item := by
    rintro X rfl rfl rfl hc i pins s σ H E I hf st ⟨ha, f, hi⟩
    obtain ⟨f0, f1, f2, f3, f4, f5⟩ := hf it (by simp)
    obtain ⟨v, ep', es', e3, e4, hx, dat⟩ := td_at I ha f
    obtain ⟨rfl, rfl⟩ := dict_ep hod e3
    obtain rfl : i = 0 := by omega
    refine wpAny_pyNext_dict_item st dat rfl fun key g hkey st' sb => ?_
    have I1 : Inv X pins σ H { s with heap := g } := I.turned (t' := s.toks) (fun b ob hb e => (sb.2 b hb).trans e) f0 f1 f3 f4 f5
    obtain ⟨oi, e, c, dd⟩ := id st'
    exact ⟨key, rfl, go_of (s := { s with heap := g }) e c dd (by decide) ⟨.bl true, H, I1, isTrue_eq hkey, ⟨rfl, rfl⟩, st', fun b hb => (hf b hb).1⟩⟩
  done := by
    rintro X rfl rfl rfl hc i pins s σ H E I hf st ⟨ha, f, hi⟩
    obtain ⟨f0, f1, f2, f3, f4, f5⟩ := hf it (by simp)
    obtain ⟨v, ep', es', e3, e4, hx, dat⟩ := td_at I ha f
    obtain ⟨rfl, rfl⟩ := dict_ep hod e3
    exact next_key_end (es := es') (I.ok.hd hc) st (td_get I ha) e3 (by omega) hi fun g eb => ⟨rfl, I.turned (t' := s.toks) (fun b ob hb e => eb b ob hb e) f0 f1 f3 f4 f5⟩
  self := fun A i s Q E st h => wpAny_pyIter_keyiter st h
def iKeyT0 (P : Program) (w : World) (td : TE) : TI := fun σ H R => td σ H fun x H1 => ∃ a o, x = .ref a ∧ H1 a = some (tdO a o) ∧ (a == sysModules) = false ∧ TdF P w o ∧ R (ItT0 P w a o) H1
theorem pi_keyT0 {tg e : Expr} {td : TE} (he : PE X e td) : PI X tg e (iKeyT0 X.prog X.w td) := by
  constructor
  intro pins s σ H R I h
  refine thn (he.run pins s σ H _ I h) ?_
  rintro u s1 ⟨x, H1, I1, rx, a, o, rfl, ha, hs, f, q⟩
  cases (show u = Value.ref a from rx)
  obtain ⟨v, ep, es, e3, e4, hx, dat⟩ := td_at I1 ha f
  refine iter_keys hs (td_get I1 ha) hx e3 (pi_one (tk := s1.toks) I1 _ (turn_T0 _ e3) ⟨_, Heap.get?_push_size _ rfl, rfl, ?_⟩ q)
  rw [e4] <;> rfl
theorem walk_T0 {P : Program} {w : World} : Walk (ItT0 P w a o) 1 (fun H => H a = some (tdO a o) ∧ TdF P w o) (fun i H x H' => H' = H ∧ x = .bl true) :=
  ⟨fun _ _ hi q => ⟨q.1, q.2, hi⟩, fun _ q => ⟨q.1, q.2, Nat.le_refl _⟩, fun _ _ _ _ _ _ y => y⟩
end
end L2
-- part TTrue
set_option maxHeartbeats 4000000
/-! A dict whose one key is True is no dict of seats. -/
namespace Kn
open PySem PySem.Spec PyProof.Rows L2 Err
def spSeated2 (P : Program) (w : World) : Sp := fun vs H Q _ => ∃ a, vs = [.ref a] ∧ TdAt P w H a ∧ ∀ H', Same H H' → Q (.bl false) H'
def spCheckT2 (P : Program) (w : World) (CT : Addr) : Sp := fun vs H _ E => ∃ a, vs = [.ref a] ∧ TdAt P w H a ∧ ∀ H', Same H H' → E (.ref CT) none H'
def spOf2 (P : Program) (w : World) (CT : Addr) : Sp := fun vs H _ E => ∃ a u, vs = [.ref a, u] ∧ TdAt P w H a ∧ ∀ H', Same H H' → E (.ref CT) none H'
section
variable {P : Program} {w : World} {K : PySem.W.Frag} {mg : Str → Option Value} {base : Heap}
theorem ok_seated2 {f f1 : Addr} {fd fd1 : FuncData} (F : Fun K "are_seated" "are_seated" sSeated f fd) (G1 : FnOk P w K mg base CX0 3 f1 fd1 ["value"] spSeat) (k1 : PySem.W.keepIn K (.ref f1) = true) (b1 : Binds K fd1 ["value"] []) (g1 : mg "is_seat" = some (.ref f1))
    (mi : mg "isinstance" = none) (m1 : mg "dict" = none) (ml : mg "len" = none) (ma : mg "all" = none) (mw : ∃ u, mg "MOST_SEATS" = some u ∧ RelV (.int 8) u) : FnOk P w K mg base CX0 4 f fd ["value"] (spSeated2 P w) := by
  have S := scSe
  refine F.ok S (fun vs H Q E h => ?_) (fun cdv A outer s H vs Q E hr h => ?_)
  · obtain ⟨a, rfl, _⟩ := h
    rfl
  · obtain ⟨a, rfl, ha, q⟩ := h
    refine ⟨_, pss_one (ps_ret (pe_and (pe_callB (show CallR _ (.builtin "isinstance") (rIsT0 K P w) from call_isT0) (by rfl) mi PyProof.Rows.boot_isinstance (pa_cons (pv 0) (pa_cons (pe_bltn (v := .ty "dict") (by rfl) m1 (by decide +kernel) rfl) pa_nil)))
      (pe_and (pe_chain op_le op_le pe_int (pe_callB (show CallR _ (.builtin "len") (rLenT0 P w) from call_lenT0) (by rfl) ml PySem.boot_len (pa_cons (pv 0) pa_nil)) (pe_known (by rfl) mw))
        (pe_one (pe_callB (cr_all (by rfl)) (by rfl) ma (by decide +kernel) (pa_cons (pe_lc (own := [("key", 1)]) (g := gName 1) rfl S.nd (pi_keyT0 (pv 0)) (blkOk_by (N := NSe) (sc := defScope sSeated) (by decide +kernel)) (fun _ _ _ _ _ => pg_name (i := 1) S.nd rfl (.inl rfl)) (fun _ _ _ _ _ => pts_nil)
          (fun _ _ _ _ _ => pe_call G1 hr (by rfl) g1 k1 b1 .nil pass0 (pa_cons (pv 1) pa_nil))) pa_nil)))))), ?_⟩
    obtain ⟨o, ho, hs, f0⟩ := id ha
    refine ⟨_, rfl, a, .ty "dict", .type "dict", true, rfl, ha, .ty _, by kernel_rfl, _, rfl, iteT ⟨_, rfl, a, rfl, ha, _, _, rfl, rfl, _, rfl, ?_⟩⟩
    refine iteT ⟨_, _, rfl, rfl, _, rfl, iteT ?_⟩
    refine ⟨_, rfl, a, o, rfl, ho, hs, f0, fun D nD => lc_it (D := D) walk_T0 (PB H D [false]) (PB.zero nD) (fun i H' _ p => ⟨p.1 _ _ ho, f0⟩) ?_ ?_⟩
    · rintro i x H3 H4 hi pb ⟨rfl, rfl⟩
      refine ⟨rfl, ?_⟩
      dsimp only [tYes]
      rw [if_pos rfl]
      refine ⟨_, rfl, .bl true, .bl true, rfl, .bl true, ?_⟩
      obtain rfl : i = 0 := by omega
      exact pb.step (Same.refl _) nD (by omega) rfl
    · intro H3 pb
      exact ⟨D, _, rfl, SqL.of pb.all, q H3 pb.1⟩
theorem ok_tuples2 {f f1 f2 f3 : Addr} {fd fd1 fd2 fd3 : FuncData} (F : Fun K "are_tuples" "are_tuples" sTuples f fd) (G1 : FnOk P w K mg base CX0 4 f1 fd1 ["value"] (spSeated2 P w)) (k1 : PySem.W.keepIn K (.ref f1) = true) (b1 : Binds K fd1 ["value"] []) (g1 : mg "are_seated" = some (.ref f1))
    (G2 : FnOk P w K mg base CX0 3 f2 fd2 ["value"] spTupN) (k2 : PySem.W.keepIn K (.ref f2) = true) (b2 : Binds K fd2 ["value"] []) (g2 : mg "is_tuple_of_numbers" = some (.ref f2))
    (G3 : FnOk P w K mg base CX0 1 f3 fd3 ["rows"] spWide) (k3 : PySem.W.keepIn K (.ref f3) = true) (b3 : Binds K fd3 ["rows"] []) (g3 : mg "are_alike_wide" = some (.ref f3))
    (ma : mg "all" = none) (ml : mg "list" = none) : FnOk P w K mg base CX0 5 f fd ["value"] (spSeated2 P w) := by
  have S := scTu
  refine F.ok S (fun vs H Q E h => ?_) (fun cdv A outer s H vs Q E hr h => ?_)
  · obtain ⟨a, rfl, _⟩ := h
    rfl
  · obtain ⟨a, rfl, ha, q⟩ := h
    have hr3 := hr.mono (show 3 ≤ 4 by decide)
    have hr1 := hr.mono (show 1 ≤ 4 by decide)
    refine ⟨_, pss_cons (ps_if (PW.pt (pw_or (pt_not (pt_val (pe_call G1 hr (by rfl) g1 k1 b1 .nil pass0 (pa_cons (pv 0) pa_nil))))
        (pw_or1 (pt_not (pt_val (pe_lock (pe_callB (cr_all (by rfl)) (by rfl) ma (by decide +kernel) (pa_cons (pe_lc (own := [("row", 1)]) (g := gName 1) rfl S.nd (pi_values (pv 0)) (blkOk_by (N := NTu) (sc := defScope sTuples) (by decide +kernel)) (fun _ _ _ _ _ => pg_name (i := 1) S.nd rfl (.inl rfl)) (fun _ _ _ _ _ => pts_nil)
          (fun _ _ _ _ _ => pe_call G2 hr3 (by rfl) g2 k2 b2 .nil pass0 (pa_cons (pv 1) pa_nil))) pa_nil)))))))) (pss_one (ps_ret pe_bl)) pss_nil)
      (pss_one (ps_ret (pe_call G3 hr1 (by rfl) g3 k3 b3 .nil pass0 (pa_cons (pe_listV (by rfl) (pv 0) (by rfl) ml) pa_nil)))), ?_⟩
    exact ⟨_, rfl, a, rfl, ha, fun H1 s1 => ⟨_, rfl, iteT (q H1 s1)⟩⟩
theorem ok_ct2 {f f1 CS CT : Addr} {fd fd1 : FuncData} (F : Fun K "check_tuples" "check_tuples" sCheckT f fd) (G1 : FnOk P w K mg base CX0 5 f1 fd1 ["value"] (spSeated2 P w)) (k1 : PySem.W.keepIn K (.ref f1) = true) (b1 : Binds K fd1 ["value"] []) (g1 : mg "are_tuples" = some (.ref f1))
    (T : EC K mg CS "BadTuples" CT) : FnOk P w K mg base (L2.CX P w) 6 f fd ["tuples"] (spCheckT2 P w CT) := by
  have S := scCT
  refine F.okX S (fun vs H Q E h => ?_) (fun cdv A outer s H vs Q E hr h => ?_)
  · obtain ⟨a, rfl, _⟩ := h
    rfl
  · obtain ⟨a, rfl, ha, h⟩ := h
    have tk : Takes (cxOf (L2.CX P w) P w K mg base ["tuples"] "check_tuples" (defScope sCheckT) f cdv A outer s H E) (fun cls d _ H => E cls d H) := takes_of rfl rfl rfl rfl
    refine ⟨_, pss_one (ps_if (pt_not (pt_val (pe_call G1 hr (by rfl) g1 k1 b1 .nil pass0 (pa_cons (pv 0) pa_nil)))) (pss_one (ps_raise rfl tk (SkE.pmk_own1 PySem.F.excBase_ValueError T.ex T.glob T.kp (raises_own T.sb T.ty) (by rfl) pe_str))) pss_nil), ?_⟩
    exact ⟨_, rfl, a, rfl, ha, fun H1 s1 => ⟨_, rfl, iteT (h H1 s1)⟩⟩
theorem ok_of2 {f f1 f2 f3 CT CC : Addr} {fd fd1 fd2 fd3 : FuncData} (F : Fun K "checks_of" "checks_of" sChecksOf f fd) (G1 : FnOk P w K mg base (L2.CX P w) 6 f1 fd1 ["tuples"] (spCheckT2 P w CT)) (k1 : PySem.W.keepIn K (.ref f1) = true) (b1 : Binds K fd1 ["tuples"] []) (g1 : mg "check_tuples" = some (.ref f1))
    (G2 : FnOk P w K mg base (L2.CX P w) 3 f2 fd2 ["count", "most"] (spCheckC CC)) (k2 : PySem.W.keepIn K (.ref f2) = true) (b2 : Binds K fd2 ["count", "most"] []) (g2 : mg "check_count" = some (.ref f2))
    (G3 : FnOk P w K mg base CX0 2 f3 fd3 ["tuples", "count"] spAll) (k3 : PySem.W.keepIn K (.ref f3) = true) (b3 : Binds K fd3 ["tuples", "count"] []) (g3 : mg "all_checks" = some (.ref f3))
    (mc : ∃ u, mg "MOST_CHECKS" = some u ∧ RelV (.int 4) u) : FnOk P w K mg base (L2.CX P w) 7 f fd ["tuples", "count"] (spOf2 P w CT) := by
  have S := scCO
  refine F.okX S (fun vs H Q E h => ?_) (fun cdv A outer s H vs Q E hr h => ?_)
  · obtain ⟨a, u, rfl, _⟩ := h
    rfl
  · obtain ⟨a, u, rfl, ha, h⟩ := h
    have tk : Takes (cxOf (L2.CX P w) P w K mg base ["tuples", "count"] "checks_of" (defScope sChecksOf) f cdv A outer s H E) (fun cls d _ H => E cls d H) := takes_of rfl rfl rfl rfl
    have hr3 := hr.mono (show 3 ≤ 6 by decide)
    have hr2 := hr.mono (show 2 ≤ 6 by decide)
    refine ⟨_, pss_cons (ps_expr (pe_call G1 hr (by rfl) g1 k1 b1 .nil (passes_call tk fun _ _ _ _ h => h) (pa_cons (pv 0) pa_nil)))
      (pss_cons (ps_expr (pe_call G2 hr3 (by rfl) g2 k2 b2 .nil (passes_call tk fun _ _ _ _ h => h) (pa_cons (pv 1) (pa_cons (pe_known (by rfl) mc) pa_nil))))
      (pss_one (ps_ret (pe_call G3 hr2 (by rfl) g3 k3 b3 .nil pass0 (pa_cons (pv 0) (pa_cons (pv 1) pa_nil)))))), ?_⟩
    exact ⟨_, rfl, a, rfl, ha, fun H' s' => h H' s'⟩
end
end Kn
-- part Gd
set_option maxHeartbeats 4000000
/-! Promises of defs that ask for the text of a value: what runs around them holds no open repr. -/
namespace Gd
open PySem PySem.Spec PyProof.Rows L2
section
variable (P : Program) (w : World) (K : PySem.W.Frag) (mg : Str → Option Value) (base : Heap)
structure FnOkG (CX : CXT) (k : Nat) (f : Addr) (fd : FuncData) (ps : List Str) (sp : Sp) : Prop where
  len : ∀ vs H Q E, sp vs H Q E → vs.length = ps.length
  run : ∀ (A : Around) (outer : List Env) (s : Shared) (H : Hp) (args : Args) (us : List Value) (vs : List V) (Q : VK) (E : XK),
    Room k A → A.guards = some [] → Env0 P w K mg base A outer s H → BindsTo s fd args (ps.zip us) → Vals vs us → sp vs H Q E →
      codeAny (model P w) A (.call (.ref f) args) (CR CX outer P w H s Q E) s
end
section
variable {P : Program} {w : World} {K : PySem.W.Frag} {mg : Str → Option Value} {base : Heap} {CX : CXT} {k j : Nat} {f : Addr} {fd : FuncData} {ps : List Str} {sp : Sp}
theorem FnOkG.of (F : FnOk P w K mg base CX k f fd ps sp) : FnOkG P w K mg base CX k f fd ps sp :=
  ⟨F.len, fun A outer s H args us vs Q E hr _ e0 hb r h => F.run A outer s H args us vs Q E hr e0 hb r h⟩
theorem FnOkG.mono (F : FnOkG P w K mg base CX j f fd ps sp) (h : j ≤ k) : FnOkG P w K mg base CX k f fd ps sp :=
  ⟨F.len, fun A outer s H args us vs Q E hr => F.run A outer s H args us vs Q E (hr.mono h)⟩
theorem okG_of {name qual : Str} {params : Arguments} {body : List Stmt} {scope : Scope} {dV kV doc pm cdv ct oc : Value} {an od : Option Addr} {osl : Array (Option Value)} {N : List Str}
    (lk : K.lookup f = some ⟨oc, od, .func (PySem.W.fnOf name qual params body scope dV kV doc pm an cdv ct), osl⟩) (hcd : PySem.W.codeIn K cdv qual = true)
    (S : FnScope N ps scope) (len : ∀ vs H Q E, sp vs H Q E → vs.length = ps.length)
    (hbody : ∀ (A : Around) (outer : List Env) (s : Shared) (H : Hp) (vs : List V) (Q : VK) (E : XK), Room k (A.deeper (envOfC qual scope s.heap.objs.size f cdv)) → A.guards = some [] → sp vs H Q E →
      ∃ t, PSs (cxOf CX P w K mg base N qual scope f cdv A outer s H E) body t ∧ t { nx := fun _ H' => Q .non H', rt := Q } (start N vs) H) :
    FnOkG P w K mg base CX (k + 1) f (PySem.W.fnOf name qual params body scope dV kV doc pm an cdv ct) ps sp := by
  refine ⟨len, fun A outer s H args us vs Q E hr hg e0 hb r hsp => ?_⟩
  have eql := len _ _ _ _ hsp
  have kin : K.In s.heap := e0.mod.kin.keeps fun b o z => (e0.bs b o z).1
  have lim := e0.mod.nolimit.keeps fun b o z => (e0.bs b o z).1
  have kinds : ∀ y ∈ ps.zip us, scope.names.lookup y.1 = some .local ∨ (scope.names.lookup y.1 = some .cell ∧ ((cellsFrom (s.heap.objs.size + 1) scope.names []).lookup y.1).isSome = true) := by
    rintro ⟨n, v⟩ hy
    rcases S.par n (List.of_mem_zip hy).1 with z | z
    · exact .inl z
    · exact .inr ⟨z, PySem.W.cellsFrom_some _ _ _ (.inl z)⟩
  refine codeAny_call_function hr.depth (kin _ _ lk) rfl S.co S.gen rfl (PySem.W.codeRec_of kin hcd) (hb _ _ _ _ ?_)
  refine wpAny_newFunctionEnv_cells S.kind kinds fun env he s1 x => ?_
  subst he
  refine ⟨lim.keeps x.toInCall.keep, codeAny_func ?_⟩
  obtain ⟨t, ht, hq⟩ := hbody A outer s H vs Q E (hr.deeper _) hg hsp
  have I : Inv (cxOf CX P w K mg base N qual scope f cdv A outer s H E) [] (start N vs) H s1 := inv_start S hr.hd e0 eql r x
  refine wpAny_mono (ht.run [] s1 (start N vs) H _ I hq) (fun fl s' hs => ?_) fun _ _ z => z
  cases fl with
  | next =>
    obtain ⟨σ', H', J, q⟩ := hs
    exact ⟨.non, H', J.os, J.bare, J.base, J.hok, rfl, q⟩
  | ret u =>
    obtain ⟨v, σ', H', J, rv, q⟩ := hs
    exact ⟨v, H', J.os, J.bare, J.base, J.hok, rv, q⟩
  | brk =>
    obtain ⟨_, _, _, q⟩ := hs
    exact q.elim
  | cont =>
    obtain ⟨_, _, _, q⟩ := hs
    exact q.elim
/-- THE RULE for such a def -/
theorem okG {x qual : Str} {st : Stmt} {N : List Str} (F : Fun K x qual st f fd) (S : FnScope N ps (defScope st)) (len : ∀ vs H Q E, sp vs H Q E → vs.length = ps.length)
    (hbody : ∀ (cdv : Value) (A : Around) (outer : List Env) (s : Shared) (H : Hp) (vs : List V) (Q : VK) (E : XK), Room k (A.deeper (envOfC qual (defScope st) s.heap.objs.size f cdv)) → A.guards = some [] → sp vs H Q E →
      ∃ t, PSs (cxOf CX0 P w K mg base N qual (defScope st) f cdv A outer s H E).nox (defBody st) t ∧ t { nx := fun _ H' => Q .non H', rt := Q } (start N vs) H) :
    FnOkG P w K mg base CX0 (k + 1) f fd ps sp := by
  obtain ⟨oc, od, kV, doc, pm, an, cdv, ct, osl, rfl, lk, hcd⟩ := F.ex
  refine okG_of lk hcd S len fun A outer s H vs Q E hr hg hsp => ?_
  obtain ⟨t, h, q⟩ := hbody cdv A outer s H vs Q E hr hg hsp
  exact ⟨t, h.nox, q⟩
end
/-- a call of such a def -/
theorem callG {X : Cx} {CX : CXT} {k : Nat} {f : Addr} {fd : FuncData} {ps : List Str} {sp : Sp} {E : XK} {x : Str} {p pos : Pos} {e : Expr} {es : List Expr} {t : TA}
    (F : FnOkG X.prog X.w X.K X.mg X.base CX k f fd ps sp) (hr : Room k X.A) (gd : X.A.guards = some []) (hg : Gl X x) (hm : X.mg x = some (.ref f)) (hk : PySem.W.keepIn X.K (.ref f) = true) (hb : Binds X.K fd ps []) (hx : Passes CX X E)
    (ha : PA X (e :: es) t) (hdb : (x == ("__debug__" : Str)) = false := by decide) (he : starEach (e :: es) X.env = (false, eval e X.env) :: starEach es X.env := by rfl)
    (hpl : (backTo pos (starEach es X.env)).any (·.1) = false := by rfl) : PE X (.Call (.Name x p) (e :: es) [] pos) (tCall sp [] E t) := by
  refine ⟨fun pins s σ H Q I h => ?_⟩
  refine wpAny_Call_Name_kw (ld_glob I hg hm ?_ hdb)
  refine PySem.W.callWith_K (h₀ := X.base) I.ok.mod.kin hk (thn (ha.run pos pins s σ H _ I h) fun us s1 ⟨vs, H1, I1, r, q⟩ => ⟨I1.kIn, ?_⟩) he hpl
  have q' : sp (vs ++ []) H1 Q E := q
  rw [List.append_nil] at q'
  have hl : us.length = ps.length := by
    rw [← r.length]
    exact F.len _ _ _ _ q'
  refine wpAny_call (codeAny_mono (F.run X.A X.stack s1 H1 ⟨us, []⟩ us vs Q E hr gd I1.env0 (by have z := hb s1 us I1.kIn (by rw [List.append_nil]; exact hl); rw [List.append_nil] at z; exact z) r q') fun r s' hq => ?_)
  cases r with
  | error er => exact hx pins σ H1 s1 er s' I1 hq
  | ok fl =>
    cases fl with
    | ret u => exact I1.after hq
    | next => exact False.elim hq
    | brk => exact False.elim hq
    | cont => exact False.elim hq
end Gd
-- part GdE
set_option maxHeartbeats 4000000
/-! The end of a law whose defs make lambdas: the script and the empty tables of code objects are what is tracked. -/
namespace Gd
open PySem PySem.Spec PyProof.Rows L2 LamX
abbrev noTab : Obj := { cls := .none, data := .fields #[] }
/-- the script's list as it stands -/
def lstH (a : Addr) (vs : List Value) (ns : List Int) : Hp := fun b => if b = a then some (.frz { cls := .type "list", data := .seq vs.toArray } (.lst (ns.map V.int))) else none
/-- the same with the tables put in -/
def withT (cs : List (Addr × Addr)) (H : Hp) : Hp := fun b => if b ∈ cs.map (·.2) then some (.tbl #[]) else H b
section
variable {P : Program} {w : World} {K : PySem.W.Frag} {mg mb : Str → Option Value} {k : Nat} {fa a : Addr} {fd : FuncData} {x : Str} {sp : Sp} {s : Shared} {vs : List Value} {ns : List Int} {H : Hp} {cs : List (Addr × Addr)}
theorem from_heapT (kin : K.In s.heap) (gl : s.heap.Ns mainGlobals mg) (bl : s.heap.Ns builtinsNs mb) (bb : ∀ x : Str, x ≠ "__name__" → mb x = bootBuiltins x) (nl : s.heap.NoLimit) (ng : s.gens = #[])
    (bmn : ∃ (bm : Addr) (ob : Obj), mg "__builtins__" = some (.ref bm) ∧ bm ≠ builtinsNs ∧ s.heap.get? bm = some ob ∧ ob.cls = .type "module" ∧ ob.dict = some builtinsNs ∧ ob.data = .plain)
    (Cd : ∀ p ∈ cs, PySem.W.codeHdIn K p.1 p.2 = true) (Nt : ∀ p ∈ cs, s.heap.get? p.2 = some noTab) (Nk : ∀ p ∈ cs, K.lookup p.2 = none)
    (ho : s.heap.get? a = some { cls := .type "list", data := .seq vs.toArray }) (hr : Room k callerA)
    (F : ∀ base : Heap, K.In base → base.Ns mainGlobals mg → (∀ p ∈ cs, TabB base mg p.1 p.2) → FnOkG P w K mg base CX0 k fa fd [x] sp) (bind : ∀ (s : Shared) (u : Value), BindsTo s fd ⟨[u], []⟩ [(x, u)])
    (hO : Only H) (hok : HOk P w (withT cs H) s.heap) (hA : ∀ b, H b ≠ none → b = a) (hK : H a ≠ none → K.lookup a = none) (hs : sp [.ref a] (withT cs H) (fun v _ => v = .bl true) fun _ _ _ => False) :
    codeAny (model P w) callerA (.call (.ref fa) ⟨[.ref a], []⟩) (fun r s' => r = .ok (.ret (.bool true)) ∧ OldK s.heap s'.heap ∧ s'.os = s.os ∧ AllBare s'.gens) s := by
  have tabO : ∀ {b : Addr}, b ∈ cs.map (·.2) → s.heap.get? b = some noTab := fun {b} z => by
    obtain ⟨p, hp, e⟩ := List.mem_map.mp z
    subst e
    exact Nt p hp
  have inT : ∀ {b : Addr}, b ∈ cs.map (·.2) → withT cs H b = some (.tbl #[]) := fun z => if_pos z
  have offT : ∀ {b : Addr}, b ∉ cs.map (·.2) → withT cs H b = H b := fun z => if_neg z
  -- what is neither the script's list nor an empty table is seen
  have see : ∀ {b : Addr} {o : Obj}, s.heap.get? b = some o → (∀ (u : Array Value) (n : Nat), o.data ≠ .seq u n) → o.data ≠ .fields #[] → withT cs H b = none := fun {b o} z n1 n2 => by
    by_cases y : b ∈ cs.map (·.2)
    · rw [tabO y] at z
      cases z
      exact absurd rfl n2
    · rw [offT y]
      cases q : H b with
      | none => rfl
      | some u =>
        obtain rfl : b = a := hA b (by rw [q]; simp)
        rw [ho] at z
        cases z
        exact absurd rfl (n1 _ _)
  have dic : ∀ {b : Addr} {o : Obj} {es : Array DictEntry} {ep : Nat}, s.heap.get? b = some o → o.data = .dict es ep → withT cs H b = none := fun {b o es ep} z d =>
    see z (fun u n y => by rw [d] at y; cases y) fun y => by rw [d] at y; cases y
  have space : ∀ {b : Addr} {m : Str → Option Value}, s.heap.Ns b m → (hidT s.heap (withT cs H)).Ns b m := by
    rintro b m ⟨o, es, ep, z1, z2, r⟩
    exact ⟨o, es, ep, hidT_get z1 (dic z1 z2), z2, r⟩
  have kin2 : K.In (hidT s.heap (withT cs H)) := fun b o z => by
    refine hidT_get (kin b o z) ?_
    by_cases y : b ∈ cs.map (·.2)
    · obtain ⟨p, hp, e⟩ := List.mem_map.mp y
      subst e
      rw [Nk p hp] at z
      cases z
    · rw [offT y]
      cases q : H b with
      | none => rfl
      | some u =>
        obtain rfl : b = a := hA b (by rw [q]; simp)
        rw [hK (by rw [q]; simp)] at z
        cases z
  have notG : ∀ {b : Addr} {o : Obj}, s.heap.get? b = some o → (∀ (es : Array DictEntry) (ep : Nat), o.data ≠ .dict es ep) → mainGlobals ≠ b := fun {b o} z n y => by
    obtain ⟨og, es, ep, z1, z2, _⟩ := gl
    rw [y, z] at z1
    cases z1
    exact n _ _ z2
  have tabs : ∀ p ∈ cs, TabB (hidT s.heap (withT cs H)) mg p.1 p.2 := fun p hp => by
    have g2 : mainGlobals ≠ p.2 := notG (Nt p hp) fun es ep y => by cases y
    refine NdefX.tabB_of_K kin2 (Cd p hp) ?_ g2
    obtain ⟨bm, ob, m1, m2, m3, m4, m5, m6⟩ := bmn
    have g3 : mainGlobals ≠ bm := notG m3 fun es ep y => by rw [m6] at y; cases y
    refine ⟨bm, ob, m1, m2, fun y => g3 y.symm, fun y => ?_, hidT_get m3 (see m3 (fun u n y => by rw [m6] at y; cases y) fun y => by rw [m6] at y; cases y), m4, m5, m6⟩
    rw [y, Nt p hp] at m3
    cases m3
    cases m6
  have at_a : a ∉ cs.map (·.2) := fun z => by
    have y := tabO z
    rw [ho] at y
    have y2 := congrArg Obj.data (Option.some.inj y)
    cases y2
  obtain ⟨mc, n1, n2⟩ := nl
  have md : Mod K mg (hidT s.heap (withT cs H)) := ⟨kin2, space gl, ⟨mb, space bl, bb⟩, mc, space n1, n2⟩
  have e0 : Env0 P w K mg (hidT s.heap (withT cs H)) callerA [] s (withT cs H) :=
    ⟨rfl, md, fun _ _ z => of_hidT z, Nat.le_of_eq (hidT_size _ _), trivial, fun b z => absurd (show b ∈ ([] : List Addr) from z) (by simp), hok, .of_eq ng⟩
  refine codeAny_mono ((F _ kin2 (space gl) tabs).run callerA [] s _ ⟨[.ref a], []⟩ [.ref a] [.ref a] _ _ hr rfl e0 (bind s (.ref a)) (.cons rfl .nil) hs) fun r s' h => ?_
  cases r with
  | error _ => exact False.elim h
  | ok fl =>
    cases fl with
    | next => exact False.elim h
    | brk => exact False.elim h
    | cont => exact False.elim h
    | ret u =>
      obtain ⟨v, H', os, bare, un, hok', rv, q⟩ := h
      obtain rfl : v = .bl true := q
      obtain rfl : u = Value.bool true := rv
      have stay : ∀ b o, b ∉ cs.map (·.2) → s.heap.get? b = some o → s'.heap.get? b = some o := fun b o y z => by
        cases hb : withT cs H b with
        | none => exact un.keep b o z hb (fun y => absurd (show b ∈ ([] : List Addr) from y) (by simp)) (by simp)
        | some u =>
          rw [offT y] at hb
          rcases hO b with y2 | ⟨ob, xs, y2⟩
          · rw [hb] at y2
            cases y2
          · obtain ⟨e1, _⟩ := hok b _ ((offT y).trans y2)
            obtain ⟨e2, _⟩ := hok' b _ (un.frzs b ob _ ((offT y).trans y2))
            rw [z] at e1
            cases e1
            exact e2
      have more : ∀ b, b ∈ cs.map (·.2) → ∃ us : Array Value, s'.heap.get? b = some { cls := .none, data := .fields us } := fun b y => by
        obtain ⟨us, z⟩ := un.tbls b #[] (inT y)
        exact ⟨_, hok' b _ z⟩
      refine ⟨rfl, ⟨fun b o z => ?_, fun b o z => ?_⟩, os, bare⟩
      · by_cases y : b ∈ cs.map (·.2)
        · obtain ⟨us, z2⟩ := more b y
          obtain ⟨p, hp, e⟩ := List.mem_map.mp y
          subst e
          rw [Nt p hp] at z
          cases z
          refine .inr (.inl ⟨((PySem.W.codeHd_of_K kin (Cd p hp)).tab (Nt p hp)).isCodeTable, rfl, #[], us, rfl, ?_⟩)
          rw [Array.empty_append]
          exact z2
        · exact .inl (stay b o y z)
      · by_cases y : b ∈ cs.map (·.2)
        · obtain ⟨us, z2⟩ := more b y
          exact ⟨_, z2⟩
        · exact ⟨o, stay b o y z⟩
end
/-- the end of such a law, told over whatever part of the heap the head has looked at -/
theorem walkGET {l : PySem.W.OpenLaw} {n k : Nat} {q : Program} {loose : List Str} {XP : (Str → Option Value) → Heap → Prop} {YP : World → Heap → Prop} {d : DefRec} {x : Str}
    (hn : l.most = some n) (hn2 : n ≤ sizeLine) (hdf : d.params.defaults = []) (hr : Room k callerA)
    (F : ∀ (w : World) (mg : Str → Option Value) (fa : Addr) (h : Heap), YP w h → h.Ns mainGlobals mg → mg d.name = some (.ref fa) →
      ∃ (K : PySem.W.Frag) (fd : FuncData) (sp : Sp) (cs : List (Addr × Addr)), K.In h ∧ (∀ p ∈ cs, PySem.W.codeHdIn K p.1 p.2 = true) ∧ (∀ p ∈ cs, h.get? p.2 = some noTab) ∧ (∀ p ∈ cs, K.lookup p.2 = none) ∧
        (∀ (s : Shared) (u : Value), BindsTo s fd ⟨[u], []⟩ [(x, u)]) ∧
        (∀ (H : Hp) (a : Addr) (ns : List Int), ns.length ≤ n → (∀ p ∈ cs, H p.2 = some (.tbl #[])) → SqL K H a (ns.map V.int) → sp [.ref a] H (fun v _ => v = .bl true) fun _ _ _ => False) ∧
        ∀ base : Heap, K.In base → base.Ns mainGlobals mg → (∀ p ∈ cs, TabB base mg p.1 p.2) → FnOkG l.prog w K mg base CX0 k fa fd [x] sp) :
    PySem.W.WalkO q loose XP YP l.row.toRowW d [] (fun f vs => PySem.call f vs) := by
  refine Att.attach_call hn hdf fun w s₀ s mg mb fa o pm cd doc a vs ns G Y ho hd hcd hmg hobj hints hlen hg => ?_
  obtain ⟨K, fd, sp, cs, kin, Cd, Nt, Nk, bind, hsp, hF⟩ := F w mg fa _ Y G.T.g hmg
  have len : ns.length ≤ sizeLine := Nat.le_trans hlen hn2
  have rv := vals_ints hints
  have tH : ∀ (H : Hp), ∀ p ∈ cs, withT cs H p.2 = some (.tbl #[]) := fun H p hp => if_pos (List.mem_map_of_mem hp)
  have tO : ∀ {H : Hp} {b : Addr} {u : HO}, withT cs H b = some u → (u = .tbl #[] ∧ s.heap.get? b = some noTab) ∨ H b = some u := fun {H b u} y => by
    by_cases z : b ∈ cs.map (·.2)
    · have y2 : some (.tbl #[]) = some u := (if_pos z).symm.trans y
      obtain ⟨p, hp, e⟩ := List.mem_map.mp z
      subst e
      exact .inl ⟨(Option.some.inj y2).symm, Nt p hp⟩
    · exact .inr ((if_neg z).symm.trans y)
  have nT : a ∉ cs.map (·.2) := fun z => by
    obtain ⟨p, hp, e⟩ := List.mem_map.mp z
    have y := Nt p hp
    rw [e, hobj] at y
    have y2 := congrArg Obj.data (Option.some.inj y)
    cases y2
  cases hk : K.lookup a with
  | some oa =>
    have z := kin a oa hk
    rw [hobj] at z
    cases z
    have hS : SqL K (withT cs fun _ => none) a (ns.map V.int) := .inr ⟨_, vs.toArray, _, hk, rfl, rfl, rfl, by rw [List.size_toArray, hints.length]; exact len, by simpa using rv⟩
    exact from_heapT (H := fun _ => none) kin G.T.g G.T.b G.T.builtins G.T.nolimit hg G.T.bmain Cd Nt Nk hobj hr hF bind (fun _ => .inl rfl) (fun b u y => by
      rcases tO y with ⟨z1, z2⟩ | z1
      · subst z1
        exact z2
      · cases z1) (fun b y => absurd rfl y) (fun y => absurd rfl y) (hsp _ a ns hlen (tH _) hS)
  | none =>
    have at_a : lstH a vs ns a = some (.frz { cls := .type "list", data := .seq vs.toArray } (.lst (ns.map V.int))) := if_pos rfl
    have other : ∀ b, b ≠ a → lstH a vs ns b = none := fun b hb => if_neg hb
    have hO : Only (lstH a vs ns) := fun b => by
      by_cases hb : b = a
      · exact .inr ⟨_, _, if_pos hb⟩
      · exact .inl (if_neg hb)
    refine from_heapT (H := lstH a vs ns) kin G.T.g G.T.b G.T.builtins G.T.nolimit hg G.T.bmain Cd Nt Nk hobj hr hF bind hO (fun b u y => ?_) (fun b y => ?_) (fun _ => hk) (hsp _ a ns hlen (tH _) (.inl (.inr ⟨_, (if_neg nT).trans at_a⟩)))
    · rcases tO y with ⟨z1, z2⟩ | y
      · subst z1
        exact z2
      by_cases hb : b = a
      · subst hb
        rw [at_a] at y
        cases y
        exact ⟨hobj, by rw [List.length_map]; exact len, vs, _, rv, hobj⟩
      · rw [other b hb] at y
        cases y
    · by_cases hb : b = a
      · exact hb
      · exact absurd (other b hb) y
end Gd
-- part THk1
set_option maxHeartbeats 4000000
/-! Out of the look at the heap: the defs, the errors, the table. -/
namespace Hk
open PySem PySem.Spec PyProof.Rows L2 NdefX Err Kn
theorem isi_of {K : PySem.W.Frag} {C : Addr} {l : List Value} (b : basB K C = true) (m : mroB K C (.ref C :: l ++ vTail) = true) (g : genB K = true) : Isi K C := by
  unfold basB at b
  unfold genB at g
  simp only [Bool.and_eq_true, decide_eq_true_eq] at b g
  obtain ⟨b1, b2, b3, b4, b5, b6, b7⟩ := b
  obtain ⟨g1, g2, g3, g4⟩ := g
  have hm : (PySem.W.clsIn K C).map (·.mro) = some (.ref C :: l ++ vTail) := of_decide_eq_true m
  obtain ⟨cd, hc, hmr⟩ := Option.map_eq_some_iff.mp hm
  have inM : ∀ v, v ∈ vTail → PySem.W.mroIn K C v = some true := fun v hv => by
    unfold PySem.W.mroIn
    rw [hc]
    show (if cd.mro.isEmpty = true then none else some (cd.mro.contains v)) = some true
    rw [hmr]
    have e : (Value.ref C :: l ++ vTail).contains v = true := by
      rw [List.contains_iff_mem]
      exact List.mem_append_right _ hv
    rw [e]
    rfl
  exact ⟨b3, He.eqO_ok b4, He.eqO_ok b5, inM _ (by unfold vTail; simp), He.eqO_ok b6, He.eqO_ok g1, g2, inM _ (by unfold vTail; simp), b7⟩
theorem kit_ref {K : PySem.W.Frag} {C D : Addr} {l : List Addr} (m : mroB K C ((l.map Value.ref) ++ vTail) = true) (hl : l.head? = some C) (b : basB K D = true) : PySem.W.kitOne K (.ref C) (.ref D) = some (decide (D ∈ l)) := by
  have hm : (PySem.W.clsIn K C).map (·.mro) = some ((l.map Value.ref) ++ vTail) := of_decide_eq_true m
  obtain ⟨cd, hc, hmr⟩ := Option.map_eq_some_iff.mp hm
  unfold basB at b
  simp only [Bool.and_eq_true, decide_eq_true_eq] at b
  obtain ⟨b1, b2, b3, _⟩ := b
  unfold PySem.W.kitOne
  by_cases h : C = D
  · subst h
    rw [if_pos (by simp)]
    have : C ∈ l := List.mem_of_mem_head? hl
    rw [decide_eq_true this]
  · rw [if_neg (by simp [h])]
    unfold PySem.W.kitCls
    show (if ((PySem.W.clsIn K D).isSome && PySem.W.typeIn K (.ref D) == some (.type "type")) = true then PySem.W.subIn K (.ref C) (.ref D) else none) = _
    rw [b1, if_pos (by rw [b3]; simp)]
    show PySem.W.mroIn K C (.ref D) = _
    unfold PySem.W.mroIn
    rw [hc]
    show (if cd.mro.isEmpty = true then none else some (cd.mro.contains (.ref D))) = _
    rw [hmr]
    have ne : ((l.map Value.ref) ++ vTail).isEmpty = false := by
      cases l with
      | nil => cases hl
      | cons _ _ => rfl
    rw [ne, if_neg Bool.false_ne_true]
    congr 1
    by_cases hd : D ∈ l
    · rw [decide_eq_true hd, List.contains_iff_mem]
      exact List.mem_append_left _ (List.mem_map_of_mem hd)
    · rw [decide_eq_false hd]
      refine Bool.eq_false_iff.mpr fun z => ?_
      rw [List.contains_iff_mem] at z
      rcases List.mem_append.mp z with z | z
      · obtain ⟨x, hx, e⟩ := List.mem_map.mp z
        cases e
        exact hd hx
      · unfold vTail at z
        simp at z
/-- a def by its address -/
theorem fq_of {K : PySem.W.Frag} {d : DQ} (e : fObs K (d.adr K) = d.val) (o : d.ok K = true) : ∃ fd, FunC K d.name d.qual d.st (d.adr K) fd (cdq K (d.adr K)) := by
  obtain ⟨o1, o⟩ := He.ba o
  obtain ⟨o2, o3⟩ := He.ba o
  have o4 : (match K.lookup (d.adr K) with
    | some ⟨_, _, .func fd, _⟩ => (match fd.code with
      | .ref _ => true
      | _ => false)
    | _ => false) = true := o3
  have o5 : PySem.W.codeIn K (.ref (match K.lookup (d.adr K) with
    | some ⟨_, _, .func fd, _⟩ => (match fd.code with
      | .ref c => c
      | _ => 0)
    | _ => 0)) d.qual = true := o1
  unfold fObs at e
  suffices z : ∀ c, c = cdq K (d.adr K) → ∃ fd, FunC K d.name d.qual d.st (d.adr K) fd c from z _ rfl
  intro c hc
  unfold cdq at hc
  cases q : K.lookup (d.adr K) with
  | none =>
    rw [q] at o4
    cases o4
  | some ob =>
    obtain ⟨oc, od, dt, osl⟩ := ob
    rw [q] at o4 o5 e hc
    cases dt with
    | func fd =>
      obtain ⟨n1, n2, n3, n4, n5, n6, n7, n8, n9, n10, n11, n12, n13, n14, n15⟩ := fd
      have e2 : (some (n1, n2, n3, n4, n5, n6, n7, n8, n15) : He.FnV) = d.val := e
      unfold DQ.val at e2
      simp only [Option.some.injEq, Prod.mk.injEq] at e2
      obtain ⟨h1, h2, h3, h4, h5, h6, h7, h8, h9⟩ := e2
      subst h1 h2 h3 h4 h5 h6 h7 h8 h9
      dsimp only at o4 o5 hc
      cases n13 with
      | ref cd =>
        obtain rfl : c = cd := hc
        exact ⟨_, ⟨_, _, _, _, _, _, _, _, rfl, q, o5⟩, o2⟩
      | _ => cases o4
    | _ => cases o4
section
variable {K : PySem.W.Frag} {h : Heap} {mg : Str → Option Value}
theorem parts (c : SaysK h K) : genB K = true ∧ (basB K (He.ga K bS) = true ∧ mroB K (He.ga K bS) ([.ref (He.ga K bS)] ++ vTail) = true) ∧ EN.all (errB K) = true ∧ apartB K = true ∧ tabK K = true ∧ fa.all (fun f => f.ok K) = true ∧ MD.all (fun p => (He.Fa.glo p.1).ok K) = true ∧ fq.all (fun d => d.ok K) = true := by
  have c1 := c.ck
  unfold chk at c1
  obtain ⟨a1, c1⟩ := He.ba c1
  obtain ⟨a2, c1⟩ := He.ba c1
  obtain ⟨a3, c1⟩ := He.ba c1
  obtain ⟨a4, c1⟩ := He.ba c1
  obtain ⟨a5, c1⟩ := He.ba c1
  obtain ⟨a6, c1⟩ := He.ba c1
  obtain ⟨a7, a8⟩ := He.ba c1
  exact ⟨a1, He.ba a2, a3, a4, a5, a6, a7, a8⟩
theorem fq_at (c : SaysK h K) {d : DQ} (hd : d ∈ fq) : ∃ fd, FunC K d.name d.qual d.st (d.adr K) fd (cdq K (d.adr K)) :=
  fq_of (List.map_inj_left.mp c.fs d hd) (List.all_eq_true.mp (parts c).2.2.2.2.2.2.2 d hd)
theorem md_at (c : SaysK h K) (i : Nat) {x : Str} {n : Nat} (e : MD[i]? = some (x, n)) : ∃ fd, FunC K x x (Kn.topS n) (He.ga K x) fd (cdq K (He.ga K x)) :=
  fq_at c (d := mdD (x, n)) (List.mem_map_of_mem (List.mem_of_getElem? e))
theorem gl_at (X : K.In h) (G : h.Ns mainGlobals mg) (c : SaysK h K) (i : Nat) {x : Str} {n : Nat} (e : MD[i]? = some (x, n)) : mg x = some (.ref (He.ga K x)) :=
  He.glo_ok X G (List.all_eq_true.mp (parts c).2.2.2.2.2.2.1 _ (List.mem_of_getElem? e))
theorem fact_at (c : SaysK h K) (i : Nat) {f : He.Fa} (e : fa[i]? = some f) : f.ok K = true :=
  List.all_eq_true.mp (parts c).2.2.2.2.2.1 _ (List.mem_of_getElem? e)
theorem fr_at (X : K.In h) (G : h.Ns mainGlobals mg) (c : SaysK h K) (i : Nat) {x : Str} (e : fa[i]? = some (.free x) := by rfl) : mg x = none := He.free_ok X G (fact_at c i e)
theorem tab_at (c : SaysK h K) {x : Str} (hx : x ∈ TN) : PySem.W.codeHdIn K (cdq K (He.ga K x)) (tbq K x) = true ∧ K.lookup (tbq K x) = none := by
  have z := List.all_eq_true.mp (parts c).2.2.2.2.1 x hx
  obtain ⟨z1, z2⟩ := He.ba z
  exact ⟨z1, Option.isNone_iff_eq_none.mp z2⟩
theorem err_at (X : K.In h) (G : h.Ns mainGlobals mg) (c : SaysK h K) {x : Str} (hx : x ∈ EN) : EC K mg (He.ga K bS) x (He.ga K x) ∧ basB K (He.ga K x) = true ∧ mroB K (He.ga K x) ([.ref (He.ga K x), .ref (He.ga K bS)] ++ vTail) = true := by
  have z := List.all_eq_true.mp (parts c).2.2.1 x hx
  unfold errB at z
  simp only [Bool.and_eq_true, decide_eq_true_eq] at z
  obtain ⟨z1, z2, z3, z4, z5, z6⟩ := z
  have b2 := z2
  unfold basB at b2
  simp only [Bool.and_eq_true, decide_eq_true_eq] at b2
  exact ⟨⟨He.glo_ok X G z1, b2.2.1, z4, z5, b2.1, isi_of (l := [.ref (He.ga K bS)]) z2 z3 (parts c).1, z6⟩, z2, z3⟩
theorem four_at (X : K.In h) (G : h.Ns mainGlobals mg) (c : SaysK h K) : Four K mg (He.ga K bS) (He.ga K "BadTuples") (He.ga K "BadCount") (He.ga K "BadChecks") (He.ga K "BadSeat") := by
  have m : ∀ i x, EN[i]? = some x → x ∈ EN := fun i x e => List.mem_of_getElem? e
  refine ⟨(err_at X G c (m 0 _ rfl)).1, (err_at X G c (m 1 _ rfl)).1, (err_at X G c (m 2 _ rfl)).1, (err_at X G c (m 3 _ rfl)).1, fun i j C D hC hD => ?_⟩
  have nd : ((bS :: EN).map (He.ga K)).Nodup := of_decide_eq_true (parts c).2.2.2.1
  have e : ∀ (i : Nat) (C : Addr), [He.ga K "BadTuples", He.ga K "BadCount", He.ga K "BadChecks", He.ga K "BadSeat"][i]? = some C → ∃ x, EN[i]? = some x ∧ C = He.ga K x := fun i C h => by
    have z : (EN.map (He.ga K))[i]? = some C := h
    rw [List.getElem?_map] at z
    obtain ⟨x, hx, e⟩ := Option.map_eq_some_iff.mp z
    exact ⟨x, hx, e.symm⟩
  obtain ⟨x, hx, rfl⟩ := e i C hC
  obtain ⟨y, hy, rfl⟩ := e j D hD
  obtain ⟨_, bx, mx⟩ := err_at X G c (m i x hx)
  obtain ⟨_, by_, my⟩ := err_at X G c (m j y hy)
  rw [kit_ref (l := [He.ga K x, He.ga K bS]) mx rfl by_]
  refine congrArg some ?_
  have nd2 : (EN.map (He.ga K)).Nodup := (List.nodup_cons.mp nd).2
  have nS : He.ga K bS ∉ EN.map (He.ga K) := (List.nodup_cons.mp nd).1
  have gx : (EN.map (He.ga K))[i]? = some (He.ga K x) := by rw [List.getElem?_map, hx]; rfl
  have gy : (EN.map (He.ga K))[j]? = some (He.ga K y) := by rw [List.getElem?_map, hy]; rfl
  by_cases ij : i = j
  · subst ij
    rw [hx] at hy
    cases hy
    rw [decide_eq_true rfl]
    exact decide_eq_true (List.mem_cons_self ..)
  · rw [decide_eq_false ij]
    refine decide_eq_false fun z => ?_
    rcases List.mem_cons.mp z with z | z
    · obtain ⟨li, ei⟩ := List.getElem?_eq_some_iff.mp gx
      exact ij ((List.getElem?_inj li nd2).mp (by rw [gx, gy, z]))
    · rw [List.mem_singleton.mp z] at gy
      exact nS (List.mem_of_getElem? gy)
end
end Hk
-- part THk2
set_option maxHeartbeats 4000000
/-! Every def's promise, one out of the other. -/
namespace Hk
open PySem PySem.Spec PyProof.Rows L2 NdefX Err Kn LamX
def Df (P : Program) (w : World) (K : PySem.W.Frag) (mg : Str → Option Value) (base : Heap) (CX : CXT) (k : Nat) (x : Str) (ps : List Str) (sp : Sp) : Prop := ∃ (f : Addr) (fd : FuncData), FnOk P w K mg base CX k f fd ps sp ∧ PySem.W.keepIn K (.ref f) = true ∧ Binds K fd ps [] ∧ mg x = some (.ref f)
section
variable {P : Program} {w : World} {K : PySem.W.Frag} {h : Heap} {mg : Str → Option Value} {base : Heap}
theorem df_of (X : K.In h) (G : h.Ns mainGlobals mg) (c : SaysK h K) {CX : CXT} {k : Nat} {ps : List Str} {sp : Sp} (i : Nat) (x : Str) (n : Nat) (e : MD[i]? = some (x, n))
    (B : ∀ (kV doc pm : Value) (an : Option Addr) (cdv ct : Value) (us : List Value), us.length = ps.length → bindArgs (PySem.W.fnOf x x (defArgs (Kn.topS n)) (defBody (Kn.topS n)) (defScope (Kn.topS n)) .none kV doc pm an cdv ct) ⟨us, []⟩ = pure (ps.zip us))
    (ok : ∀ (f : Addr) (fd : FuncData), L2.Fun K x x (Kn.topS n) f fd → FnOk P w K mg base CX k f fd ps sp) : Df P w K mg base CX k x ps sp := by
  obtain ⟨fd, F⟩ := md_at c i e
  exact ⟨_, fd, ok _ _ F.toFun, F.kp, F.toFun.binds B, gl_at X G c i e⟩
/-- what the head tells, in short -/
structure Hd (K : PySem.W.Frag) (h : Heap) (mg : Str → Option Value) : Prop where
  X : K.In h
  G : h.Ns mainGlobals mg
  c : SaysK h K
theorem Hd.fr (d : Hd K h mg) (i : Nat) {x : Str} (e : fa[i]? = some (.free x) := by rfl) : mg x = none := fr_at d.X d.G d.c i e
theorem Hd.isinst (d : Hd K h mg) : mg "isinstance" = none := d.fr 0
theorem Hd.int (d : Hd K h mg) : mg "int" = none := d.fr 1
theorem Hd.bool (d : Hd K h mg) : mg "bool" = none := d.fr 2
theorem Hd.list (d : Hd K h mg) : mg "list" = none := d.fr 3
theorem Hd.tuple (d : Hd K h mg) : mg "tuple" = none := d.fr 4
theorem Hd.dict (d : Hd K h mg) : mg "dict" = none := d.fr 5
theorem Hd.len (d : Hd K h mg) : mg "len" = none := d.fr 6
theorem Hd.all (d : Hd K h mg) : mg "all" = none := d.fr 7
theorem Hd.min (d : Hd K h mg) : mg "min" = none := d.fr 8
theorem Hd.sorted (d : Hd K h mg) : mg "sorted" = none := d.fr 9
theorem Hd.range (d : Hd K h mg) : mg "range" = none := d.fr 10
theorem Hd.enum (d : Hd K h mg) : mg "enumerate" = none := d.fr 11
theorem Hd.repr (d : Hd K h mg) : mg "repr" = none := d.fr 12
theorem Hd.abs (d : Hd K h mg) : mg "abs" = none := d.fr 13
theorem Hd.sum (d : Hd K h mg) : mg "sum" = none := d.fr 14
theorem Hd.zip (d : Hd K h mg) : mg "zip" = none := d.fr 15
theorem Hd.still (d : Hd K h mg) : mg "StillError" = some (.ref (He.ga K bS)) := He.glo_ok d.X d.G (fact_at d.c 16 (f := .glo bS) rfl)
theorem Hd.seats (d : Hd K h mg) : ∃ u, mg "MOST_SEATS" = some u ∧ RelV (.int 8) u := by
  obtain ⟨t, e⟩ := He.int_ok d.X d.G (fact_at d.c 17 (f := .int "MOST_SEATS" 8) rfl)
  exact ⟨_, e, t, rfl⟩
theorem Hd.high (d : Hd K h mg) : ∃ u, mg "HIGHEST_SEAT" = some u ∧ RelV (.int 9) u := by
  obtain ⟨t, e⟩ := He.int_ok d.X d.G (fact_at d.c 18 (f := .int "HIGHEST_SEAT" 9) rfl)
  exact ⟨_, e, t, rfl⟩
theorem Hd.wide (d : Hd K h mg) : ∃ u, mg "WIDEST" = some u ∧ RelV (.int 45) u := by
  obtain ⟨t, e⟩ := He.int_ok d.X d.G (fact_at d.c 19 (f := .int "WIDEST" 45) rfl)
  exact ⟨_, e, t, rfl⟩
theorem Hd.checks (d : Hd K h mg) : ∃ u, mg "MOST_CHECKS" = some u ∧ RelV (.int 4) u := by
  obtain ⟨t, e⟩ := He.int_ok d.X d.G (fact_at d.c 20 (f := .int "MOST_CHECKS" 4) rfl)
  exact ⟨_, e, t, rfl⟩
theorem Hd.four (d : Hd K h mg) : Four K mg (He.ga K bS) (He.ga K "BadTuples") (He.ga K "BadCount") (He.ga K "BadChecks") (He.ga K "BadSeat") := four_at d.X d.G d.c
variable (d : Hd K h mg)
include d
theorem df_number : Df P w K mg base CX0 1 "is_number" ["value"] (spJ isNum) := by
  exact df_of d.X d.G d.c 0 "is_number" 7 rfl (fun _ _ _ _ _ _ us hl => match us, hl with | [_], _ => rfl) fun _ _ F => ok_number F d.isinst d.int d.bool
theorem df_within : Df P w K mg base CX0 2 "is_within" ["value", "least", "greatest"] spWithin := by
  obtain ⟨f1, fd1, G1, k1, b1, g1⟩ := df_number (P := P) (w := w) (base := base) d
  exact df_of d.X d.G d.c 1 "is_within" 8 rfl (fun _ _ _ _ _ _ us hl => match us, hl with | [_, _, _], _ => rfl) fun _ _ F => ok_within F G1 k1 b1 g1
theorem df_isList : Df P w K mg base CX0 1 "is_list" ["value"] spIsList := by
  exact df_of d.X d.G d.c 2 "is_list" 9 rfl (fun _ _ _ _ _ _ us hl => match us, hl with | [_], _ => rfl) fun _ _ F => ok_isList F d.isinst d.list d.tuple
theorem df_tupOf : Df P w K mg base CX0 1 "is_tuple_of" ["value", "many"] spTupOf := by
  exact df_of d.X d.G d.c 3 "is_tuple_of" 10 rfl (fun _ _ _ _ _ _ us hl => match us, hl with | [_, _], _ => rfl) fun _ _ F => ok_tupOf F d.isinst d.tuple d.len
theorem df_nums : Df P w K mg base CX0 2 "are_numbers" ["value", "many"] spNums := by
  obtain ⟨f1, fd1, G1, k1, b1, g1⟩ := df_tupOf (P := P) (w := w) (base := base) d
  obtain ⟨f2, fd2, G2, k2, b2, g2⟩ := df_number (P := P) (w := w) (base := base) d
  exact df_of d.X d.G d.c 4 "are_numbers" 12 rfl (fun _ _ _ _ _ _ us hl => match us, hl with | [_, _], _ => rfl) fun _ _ F => ok_nums F G1 k1 b1 g1 G2 k2 b2 g2 d.all
theorem df_seat : Df P w K mg base CX0 3 "is_seat" ["value"] spSeat := by
  obtain ⟨f1, fd1, G1, k1, b1, g1⟩ := df_within (P := P) (w := w) (base := base) d
  exact df_of d.X d.G d.c 5 "is_seat" 18 rfl (fun _ _ _ _ _ _ us hl => match us, hl with | [_], _ => rfl) fun _ _ F => ok_seat F G1 k1 b1 g1 d.high
theorem df_tupN : Df P w K mg base CX0 3 "is_tuple_of_numbers" ["value"] spTupN := by
  obtain ⟨f1, fd1, G1, k1, b1, g1⟩ := df_nums (P := P) (w := w) (base := base) d
  exact df_of d.X d.G d.c 6 "is_tuple_of_numbers" 19 rfl (fun _ _ _ _ _ _ us hl => match us, hl with | [_], _ => rfl) fun _ _ F => ok_tupN F G1 k1 b1 g1 d.isinst d.tuple d.len d.wide
theorem df_wide : Df P w K mg base CX0 1 "are_alike_wide" ["rows"] spWide := by
  exact df_of d.X d.G d.c 7 "are_alike_wide" 20 rfl (fun _ _ _ _ _ _ us hl => match us, hl with | [_], _ => rfl) fun _ _ F => ok_wide F d.all d.len
theorem df_seated : Df P w K mg base CX0 4 "are_seated" ["value"] spSeated := by
  obtain ⟨f1, fd1, G1, k1, b1, g1⟩ := df_seat (P := P) (w := w) (base := base) d
  exact df_of d.X d.G d.c 8 "are_seated" 21 rfl (fun _ _ _ _ _ _ us hl => match us, hl with | [_], _ => rfl) fun _ _ F => ok_seated F G1 k1 b1 g1 d.isinst d.dict d.len d.all d.seats
theorem df_seated2 : Df P w K mg base CX0 4 "are_seated" ["value"] (spSeated2 P w) := by
  obtain ⟨f1, fd1, G1, k1, b1, g1⟩ := df_seat (P := P) (w := w) (base := base) d
  exact df_of d.X d.G d.c 8 "are_seated" 21 rfl (fun _ _ _ _ _ _ us hl => match us, hl with | [_], _ => rfl) fun _ _ F => ok_seated2 F G1 k1 b1 g1 d.isinst d.dict d.len d.all d.seats
theorem df_tuples : Df P w K mg base CX0 5 "are_tuples" ["value"] spTuples := by
  obtain ⟨f1, fd1, G1, k1, b1, g1⟩ := df_seated (P := P) (w := w) (base := base) d
  obtain ⟨f2, fd2, G2, k2, b2, g2⟩ := df_tupN (P := P) (w := w) (base := base) d
  obtain ⟨f3, fd3, G3, k3, b3, g3⟩ := df_wide (P := P) (w := w) (base := base) d
  exact df_of d.X d.G d.c 9 "are_tuples" 22 rfl (fun _ _ _ _ _ _ us hl => match us, hl with | [_], _ => rfl) fun _ _ F => ok_tuples F G1 k1 b1 g1 G2 k2 b2 g2 G3 k3 b3 g3 d.all d.list
theorem df_tuples2 : Df P w K mg base CX0 5 "are_tuples" ["value"] (spSeated2 P w) := by
  obtain ⟨f1, fd1, G1, k1, b1, g1⟩ := df_seated2 (P := P) (w := w) (base := base) d
  obtain ⟨f2, fd2, G2, k2, b2, g2⟩ := df_tupN (P := P) (w := w) (base := base) d
  obtain ⟨f3, fd3, G3, k3, b3, g3⟩ := df_wide (P := P) (w := w) (base := base) d
  exact df_of d.X d.G d.c 9 "are_tuples" 22 rfl (fun _ _ _ _ _ _ us hl => match us, hl with | [_], _ => rfl) fun _ _ F => ok_tuples2 F G1 k1 b1 g1 G2 k2 b2 g2 G3 k3 b3 g3 d.all d.list
theorem df_checks : Df P w K mg base CX0 4 "are_checks" ["value"] spChecks := by
  obtain ⟨f1, fd1, G1, k1, b1, g1⟩ := df_isList (P := P) (w := w) (base := base) d
  obtain ⟨f2, fd2, G2, k2, b2, g2⟩ := df_tupN (P := P) (w := w) (base := base) d
  obtain ⟨f3, fd3, G3, k3, b3, g3⟩ := df_wide (P := P) (w := w) (base := base) d
  exact df_of d.X d.G d.c 10 "are_checks" 23 rfl (fun _ _ _ _ _ _ us hl => match us, hl with | [_], _ => rfl) fun _ _ F => ok_checks F G1 k1 b1 g1 G2 k2 b2 g2 G3 k3 b3 g3 d.all d.list d.len d.checks
theorem df_raised : Df P w K mg base CX0 1 "raised" ["number", "power"] spRaised := by
  exact df_of d.X d.G d.c 11 "raised" 24 rfl (fun _ _ _ _ _ _ us hl => match us, hl with | [_, _], _ => rfl) fun _ _ F => ok_raised F d.range
theorem df_plus : Df P w K mg base CX0 1 "plus_times" ["row", "number", "other"] spPlus := by
  exact df_of d.X d.G d.c 12 "plus_times" 25 rfl (fun _ _ _ _ _ _ us hl => match us, hl with | [_, _, _], _ => rfl) fun _ _ F => ok_plus F d.zip d.tuple
theorem df_all : Df P w K mg base CX0 2 "all_checks" ["tuples", "count"] spAll := by
  obtain ⟨f1, fd1, G1, k1, b1, g1⟩ := df_raised (P := P) (w := w) (base := base) d
  obtain ⟨f2, fd2, G2, k2, b2, g2⟩ := df_plus (P := P) (w := w) (base := base) d
  exact df_of d.X d.G d.c 13 "all_checks" 26 rfl (fun _ _ _ _ _ _ us hl => match us, hl with | [_, _], _ => rfl) fun _ _ F => ok_all F G1 k1 b1 g1 G2 k2 b2 g2 d.len d.min d.range
theorem df_ct : Df P w K mg base (L2.CX P w) 6 "check_tuples" ["tuples"] (spCheckT (He.ga K "BadTuples")) := by
  obtain ⟨f1, fd1, G1, k1, b1, g1⟩ := df_tuples (P := P) (w := w) (base := base) d
  exact df_of d.X d.G d.c 14 "check_tuples" 28 rfl (fun _ _ _ _ _ _ us hl => match us, hl with | [_], _ => rfl) fun _ _ F => ok_ct F G1 k1 b1 g1 d.four.t
theorem df_ct2 : Df P w K mg base (L2.CX P w) 6 "check_tuples" ["tuples"] (spCheckT2 P w (He.ga K "BadTuples")) := by
  obtain ⟨f1, fd1, G1, k1, b1, g1⟩ := df_tuples2 (P := P) (w := w) (base := base) d
  exact df_of d.X d.G d.c 14 "check_tuples" 28 rfl (fun _ _ _ _ _ _ us hl => match us, hl with | [_], _ => rfl) fun _ _ F => ok_ct2 F G1 k1 b1 g1 d.four.t
theorem df_cc : Df P w K mg base (L2.CX P w) 3 "check_count" ["count", "most"] (spCheckC (He.ga K "BadCount")) := by
  obtain ⟨f1, fd1, G1, k1, b1, g1⟩ := df_within (P := P) (w := w) (base := base) d
  exact df_of d.X d.G d.c 15 "check_count" 29 rfl (fun _ _ _ _ _ _ us hl => match us, hl with | [_, _], _ => rfl) fun _ _ F => ok_cc F G1 k1 b1 g1 d.four.c
theorem df_of1 : Df P w K mg base (L2.CX P w) 7 "checks_of" ["tuples", "count"] (spOf (He.ga K "BadTuples") (He.ga K "BadCount")) := by
  obtain ⟨f1, fd1, G1, k1, b1, g1⟩ := df_ct (P := P) (w := w) (base := base) d
  obtain ⟨f2, fd2, G2, k2, b2, g2⟩ := df_cc (P := P) (w := w) (base := base) d
  obtain ⟨f3, fd3, G3, k3, b3, g3⟩ := df_all (P := P) (w := w) (base := base) d
  exact df_of d.X d.G d.c 16 "checks_of" 30 rfl (fun _ _ _ _ _ _ us hl => match us, hl with | [_, _], _ => rfl) fun _ _ F => ok_of F G1 k1 b1 g1 G2 k2 b2 g2 G3 k3 b3 g3 d.checks
theorem df_of2 : Df P w K mg base (L2.CX P w) 7 "checks_of" ["tuples", "count"] (spOf2 P w (He.ga K "BadTuples")) := by
  obtain ⟨f1, fd1, G1, k1, b1, g1⟩ := df_ct2 (P := P) (w := w) (base := base) d
  obtain ⟨f2, fd2, G2, k2, b2, g2⟩ := df_cc (P := P) (w := w) (base := base) d
  obtain ⟨f3, fd3, G3, k3, b3, g3⟩ := df_all (P := P) (w := w) (base := base) d
  exact df_of d.X d.G d.c 16 "checks_of" 30 rfl (fun _ _ _ _ _ _ us hl => match us, hl with | [_, _], _ => rfl) fun _ _ F => ok_of2 F G1 k1 b1 g1 G2 k2 b2 g2 G3 k3 b3 g3 d.checks
theorem df_after : Df P w K mg base (L2.CX P w) 5 "after_change" ["checks", "seat", "before", "later"] (spAfter (He.ga K "BadChecks") (He.ga K "BadSeat") (He.ga K "BadTuples")) := by
  obtain ⟨f1, fd1, G1, k1, b1, g1⟩ := df_checks (P := P) (w := w) (base := base) d
  obtain ⟨f2, fd2, G2, k2, b2, g2⟩ := df_seat (P := P) (w := w) (base := base) d
  obtain ⟨f3, fd3, G3, k3, b3, g3⟩ := df_tupN (P := P) (w := w) (base := base) d
  obtain ⟨f4, fd4, G4, k4, b4, g4⟩ := df_wide (P := P) (w := w) (base := base) d
  obtain ⟨f5, fd5, G5, k5, b5, g5⟩ := df_raised (P := P) (w := w) (base := base) d
  obtain ⟨f6, fd6, G6, k6, b6, g6⟩ := df_plus (P := P) (w := w) (base := base) d
  exact df_of d.X d.G d.c 17 "after_change" 31 rfl (fun _ _ _ _ _ _ us hl => match us, hl with | [_, _, _, _], _ => rfl) fun _ _ F => ok_after F G1 k1 b1 g1 G2 k2 b2 g2 G3 k3 b3 g3 G4 k4 b4 g4 G5 k5 b5 g5 G6 k6 b6 g6 d.four.k d.four.e d.four.t d.all d.list d.enum
/-! ### the law's own -/
theorem df_begun : Df P w K mg base CX0 1 "_law_begun" ["_law_script"] (spBegun K) := by
  exact df_of d.X d.G d.c 18 "_law_begun" 33 rfl (fun _ _ _ _ _ _ us hl => match us, hl with | [_], _ => rfl) fun _ _ F => ok_begun F d.abs
theorem df_take : Df P w K mg base CX0 2 "_law_take" ["_law_draw", "_law_amount"] spTake := by
  obtain ⟨fdM, M⟩ := md_at d.c 19 (x := "_law_mixed") (n := 34) rfl
  exact df_of d.X d.G d.c 20 "_law_take" 35 rfl (fun _ _ _ _ _ _ us hl => match us, hl with | [_, _], _ => rfl) fun _ _ F =>
    ok_take F M.toFun (M.toFun.binds (ps := ["_law_draw"]) fun _ _ _ _ _ _ us hl => match us, hl with | [_], _ => rfl) (gl_at d.X d.G d.c 19 (x := "_law_mixed") (n := 34) rfl) d.int
theorem df_pick : Df P w K mg base CX0 3 "_law_pick" ["_law_draw", "_law_some"] spPick := by
  obtain ⟨fdM, M⟩ := md_at d.c 19 (x := "_law_mixed") (n := 34) rfl
  obtain ⟨fdT, T⟩ := md_at d.c 20 (x := "_law_take") (n := 35) rfl
  exact df_of d.X d.G d.c 21 "_law_pick" 36 rfl (fun _ _ _ _ _ _ us hl => match us, hl with | [_, _], _ => rfl) fun _ _ F =>
    ok_pick F T.toFun M.toFun (T.toFun.binds (ps := ["_law_draw", "_law_amount"]) fun _ _ _ _ _ _ us hl => match us, hl with | [_, _], _ => rfl) (M.toFun.binds (ps := ["_law_draw"]) fun _ _ _ _ _ _ us hl => match us, hl with | [_], _ => rfl)
      (gl_at d.X d.G d.c 20 (x := "_law_take") (n := 35) rfl) (gl_at d.X d.G d.c 19 (x := "_law_mixed") (n := 34) rfl) d.int d.len
theorem df_shuf : Df P w K mg base CX0 3 "_law_shuffled" ["_law_draw", "_law_some"] spShuf := by
  obtain ⟨f1, fd1, G1, k1, b1, g1⟩ := df_take (P := P) (w := w) (base := base) d
  exact df_of d.X d.G d.c 22 "_law_shuffled" 37 rfl (fun _ _ _ _ _ _ us hl => match us, hl with | [_, _], _ => rfl) fun _ _ F => ok_shuf F G1 k1 b1 g1 d.len d.list
theorem df_lnum : Df P w K mg base CX0 4 "_law_number" ["_law_draw"] spLNum := by
  obtain ⟨f1, fd1, G1, k1, b1, g1⟩ := df_take (P := P) (w := w) (base := base) d
  obtain ⟨f2, fd2, G2, k2, b2, g2⟩ := df_pick (P := P) (w := w) (base := base) d
  exact df_of d.X d.G d.c 24 "_law_number" 39 rfl (fun _ _ _ _ _ _ us hl => match us, hl with | [_], _ => rfl) fun _ _ F => ok_lnum F G1 k1 b1 g1 G2 k2 b2 g2
theorem df_ltup : Df P w K mg base CX0 5 "_law_tuples" ["_law_draw", "_law_most", "_law_width"] spLTup := by
  obtain ⟨f1, fd1, G1, k1, b1, g1⟩ := df_take (P := P) (w := w) (base := base) d
  obtain ⟨f2, fd2, G2, k2, b2, g2⟩ := df_shuf (P := P) (w := w) (base := base) d
  obtain ⟨f3, fd3, G3, k3, b3, g3⟩ := df_lnum (P := P) (w := w) (base := base) d
  exact df_of d.X d.G d.c 25 "_law_tuples" 40 rfl (fun _ _ _ _ _ _ us hl => match us, hl with | [_, _, _], _ => rfl) fun _ _ F => ok_ltup F G1 k1 b1 g1 G2 k2 b2 g2 G3 k3 b3 g3 d.list d.range d.tuple
theorem df_lpow : Df P w K mg base CX0 1 "_law_power" ["_law_seat", "_law_index"] spRaised := by
  exact df_of d.X d.G d.c 26 "_law_power" 41 rfl (fun _ _ _ _ _ _ us hl => match us, hl with | [_, _], _ => rfl) fun _ _ F => ok_lpow F d.range
theorem df_lchk : Df P w K mg base CX0 2 "_law_check" ["_law_tuples_here", "_law_index"] spLChk := by
  obtain ⟨f1, fd1, G1, k1, b1, g1⟩ := df_lpow (P := P) (w := w) (base := base) d
  exact df_of d.X d.G d.c 27 "_law_check" 42 rfl (fun _ _ _ _ _ _ us hl => match us, hl with | [_, _], _ => rfl) fun _ _ F => ok_lchk F G1 k1 b1 g1 d.len d.sorted d.range d.sum d.tuple
theorem df_word : Df P w K mg base CX0 1 "_law_word" ["_law_error"] (spWord (He.ga K "BadTuples") (He.ga K "BadCount") (He.ga K "BadChecks") (He.ga K "BadSeat")) := by
  exact df_of d.X d.G d.c 28 "_law_word" 43 rfl (fun _ _ _ _ _ _ us hl => match us, hl with | [_], _ => rfl) fun _ _ F => ok_word F d.four d.isinst
omit d
theorem caught_at (d : Hd K h mg) : ∃ (f : Addr) (fd : FuncData), L2.Fun K "_law_caught" "_law_caught" sCaught f fd ∧ Binds K fd ["_law_work"] [] ∧ mg "_law_caught" = some (.ref f) := by
  obtain ⟨fd, F⟩ := md_at d.c 23 (x := "_law_caught") (n := 38) rfl
  exact ⟨_, fd, F.toFun, F.toFun.binds fun _ _ _ _ _ _ us hl => match us, hl with | [_], _ => rfl, gl_at d.X d.G d.c 23 (x := "_law_caught") (n := 38) rfl⟩
end
end Hk
-- part TOdd
set_option maxHeartbeats 4000000
/-! What is no dict of seats, as words; what is no list of checks. -/
namespace Kn
open PySem PySem.Spec PyProof.Rows L2
abbrev K1 (i : Int) : Option Key := some (.inl i)
def ones (wd : Nat) : List W := List.replicate wd (.int 1)
theorem tuplesW_eq (kws : List (Option Key × W)) : tuplesW (.dct kws) = ((decide ((1 : Int) ≤ (kws.length : Int)) && (decide ((kws.length : Int) ≤ 8) && kws.all fun p => seatK p.1)) && (kws.all (fun p => tupNW p.2) && wideW (kws.map (·.2)))) := rfl
theorem odd_key {k : Option Key} {g : W} (h : seatK k = false) : tuplesW (.dct [(k, g)]) = false := by
  rw [tuplesW_eq]
  have e : ([(k, g)].all fun p => seatK p.1) = false := by
    rw [List.all_cons, h]
    rfl
  rw [e, Bool.and_false, Bool.and_false, Bool.false_and]
theorem odd_val {kws : List (Option Key × W)} (h : (kws.all fun p => tupNW p.2) = false) : tuplesW (.dct kws) = false := by
  rw [tuplesW_eq, h, Bool.false_and, Bool.and_false]
theorem odd_one {k : Option Key} {g : W} (h : tupNW g = false) : tuplesW (.dct [(k, g)]) = false := odd_val (by
  rw [List.all_cons, h]
  rfl)
theorem odd_wide {k k2 : Option Key} {a b : List W} (h : a.length ≠ b.length) : tuplesW (.dct [(k, .tup a), (k2, .tup b)]) = false := by
  rw [tuplesW_eq]
  have e : wideW ([(k, W.tup a), (k2, W.tup b)].map (·.2)) = false := by
    show (decide (a.length = a.length) && (decide (b.length = a.length) && true)) = false
    rw [decide_eq_false (p := b.length = a.length) (fun z => h z.symm), Bool.false_and, Bool.and_false]
  rw [e, Bool.and_false, Bool.and_false]
theorem odd_many {kws : List (Option Key × W)} (h : 8 < kws.length) : tuplesW (.dct kws) = false := by
  rw [tuplesW_eq, decide_eq_false (show ¬ ((kws.length : Int) ≤ 8) by omega), Bool.false_and, Bool.and_false, Bool.false_and]
theorem no_num {ws : List W} {x : W} (m : x ∈ ws) (h : isNum x = false) : tupNW (.tup ws) = false := by
  show (_ && ws.all isNum) = false
  have e : ws.all isNum = false := by
    rw [List.all_eq_false]
    exact ⟨x, m, by rw [h]; exact Bool.false_ne_true⟩
  rw [e, Bool.and_false]
theorem no_wide {ws : List W} (h : 45 < ws.length) : tupNW (.tup ws) = false := by
  show (decide ((ws.length : Int) ≤ 45) && _) = false
  rw [decide_eq_false (show ¬ ((ws.length : Int) ≤ 45) by omega), Bool.false_and]
theorem good_num {wd : Nat} (h : wd ≤ 45) : tupNW (.tup (ones wd)) = true := by
  show (decide (((ones wd).length : Int) ≤ 45) && (ones wd).all isNum) = true
  have e1 : (ones wd).length = wd := List.length_replicate ..
  have e2 : (ones wd).all isNum = true := by
    rw [List.all_eq_true]
    intro x hx
    rw [List.eq_of_mem_replicate hx]
    kernel_rfl
  rw [e1, decide_eq_true (show ((wd : Nat) : Int) ≤ 45 by omega), e2]
  rfl
/-! ### checks -/
theorem chk_long {w : W} {ws : List W} (e : seqW w = some ws) (h : 4 < ws.length) : checksW w = false := by
  unfold checksW
  rw [e]
  show (decide ((ws.length : Int) ≤ 4) && _) = false
  rw [decide_eq_false (show ¬ ((ws.length : Int) ≤ 4) by omega), Bool.false_and]
theorem chk_part {w : W} {ws : List W} {x : W} (e : seqW w = some ws) (m : x ∈ ws) (h : tupNW x = false) : checksW w = false := by
  unfold checksW
  rw [e]
  have z : ws.all tupNW = false := by
    rw [List.all_eq_false]
    exact ⟨x, m, by rw [h]; exact Bool.false_ne_true⟩
  show (_ && (ws.all tupNW && _)) = false
  rw [z, Bool.false_and, Bool.and_false]
theorem chk_wide {a b : List W} (h : a.length ≠ b.length) : checksW (.lst [.tup a, .tup b]) = false := by
  have e : wideW [W.tup a, .tup b] = false := by
    show (decide (a.length = a.length) && (decide (b.length = a.length) && true)) = false
    rw [decide_eq_false (p := b.length = a.length) (fun z => h z.symm), Bool.false_and, Bool.and_false]
  have z : checksW (.lst [.tup a, .tup b]) = (decide ((([W.tup a, .tup b] : List W).length : Int) ≤ 4) && (([W.tup a, .tup b] : List W).all tupNW && wideW [W.tup a, .tup b])) := rfl
  rw [z, e, Bool.and_false, Bool.and_false]
theorem chk_one {wd : Nat} (h : wd ≤ 45) : checksW (.lst [.tup (ones wd)]) = true := by
  show (true && ((tupNW (.tup (ones wd)) && true) && (decide (lenW (.tup (ones wd)) = lenW (.tup (ones wd))) && true))) = true
  rw [good_num h, decide_eq_true rfl]
  rfl
end Kn
-- part Rp
set_option maxHeartbeats 4000000
/-! repr of values that are data, dicts of texts among them. -/
namespace Rp
open PySem PySem.Spec PyProof.Rows L2
/-- v is to be read as the datum d -/
def Tx (K : PySem.W.Frag) (H : Hp) (v : V) (d : PyData) : Prop :=
  ∀ (X : Cx) (pins : List (Addr × Obj)) (σ : L2.St) (s : Shared), X.K = K → Inv X pins σ H s → ∀ u, L2.RelV v u → ∃ as, Reads s.heap u d as ∧ (d.hasDict = true → sysModules ∉ as)
section
variable {K : PySem.W.Frag} {H : Hp}
theorem Tx.dp {v : V} {d : PyData} (h : Dp K H v d) (n : d.hasDict = false) : Tx K H v d := by
  rintro X pins σ s rfl I u ru
  obtain ⟨as, r⟩ := Dp.reads I d v u h ru
  exact ⟨as, r, fun z => by rw [n] at z; cases z⟩
theorem rep_dict {d : PyData} {n : Nat} : PyData.hasDictAll (List.replicate (n + 1) d) = d.hasDict := by
  induction n with
  | zero => show (d.hasDict || false) = d.hasDict; rw [Bool.or_false]
  | succ n ih =>
    show (d.hasDict || PyData.hasDictAll (List.replicate (n + 1) d)) = d.hasDict
    rw [ih, Bool.or_self]
theorem Tx.rep {l : Addr} {v : V} {d : PyData} {n : Nat} (h : H l = some (.lst (List.replicate (n + 1) v))) (hv : Tx K H v d) (hm : ∃ o, K.lookup sysModules = some o) : Tx K H (.ref l) (.list (List.replicate (n + 1) d)) := by
  rintro X pins σ s rfl I u ru
  obtain rfl : u = Value.ref l := ru
  obtain ⟨hz, its, m, rv, ho⟩ := I.hok _ _ h
  have all : ∀ (k : Nat) (us : List Value), Vals (List.replicate k v) us → ∃ as, ReadsAll s.heap us (List.replicate k d) as ∧ (d.hasDict = true → sysModules ∉ as) := by
    intro k
    induction k with
    | zero =>
      intro us r
      cases r
      exact ⟨[], .nil, fun _ => by simp⟩
    | succ k ih =>
      intro us r
      cases r with
      | cons r1 r2 =>
        obtain ⟨as, q1, z1⟩ := hv X pins σ s rfl I _ r1
        obtain ⟨bs, q2, z2⟩ := ih _ r2
        exact ⟨as ++ bs, .cons q1 q2, fun z => by
          intro y
          rcases List.mem_append.mp y with y | y
          · exact z1 z y
          · exact z2 z y⟩
  obtain ⟨as, q, z⟩ := all _ _ rv
  refine ⟨l :: as, Reads.list ho rfl rfl (by simpa using q), fun y => ?_⟩
  have y' : d.hasDict = true := (rep_dict (d := d) (n := n)).symm.trans y
  intro w
  rcases List.mem_cons.mp w with w | w
  · obtain ⟨o, e⟩ := hm
    have z2 := (I.bs _ _ (I.ok.mod.kin _ _ e)).2
    rw [w, h] at z2
    cases z2
  · exact z y' w
end
/-- the same, and no list on the way is the table of modules -/
def Ty (K : PySem.W.Frag) (H : Hp) (v : V) (d : PyData) : Prop :=
  ∀ (X : Cx) (pins : List (Addr × Obj)) (σ : L2.St) (s : Shared), X.K = K → Inv X pins σ H s → ∀ u, L2.RelV v u → ∃ as, Reads s.heap u d as ∧ sysModules ∉ as
def kD : Key → PyData
  | .inl i => .int i
  | .inr x => .str x
section
variable {K : PySem.W.Frag} {H : Hp}
theorem Ty.tx {v : V} {d : PyData} (h : Ty K H v d) : Tx K H v d := fun X pins σ s e I u ru =>
  let ⟨as, r, z⟩ := h X pins σ s e I u ru
  ⟨as, r, fun _ => z⟩
theorem Ty.tup0 {a : Addr} (h : H a = some (.tup [])) : Ty K H (.ref a) (.tuple []) := by
  rintro X pins σ s rfl I u ru
  obtain rfl : u = Value.ref a := ru
  obtain ⟨its, rv, ⟨o, ho, hc, n, hd⟩, _⟩ := I.tuple (SqT.of h)
  cases rv
  exact ⟨[], Reads.tuple ho hc hd .nil, by simp⟩
theorem Ty.dK {a : Addr} {kvs : List (Key × V)} {ds : List PyData} (h : H a = some (.dK kvs)) (hd : Paired (fun (kv : Key × V) d => Ty K H kv.2 d) kvs ds) : Ty K H (.ref a) (.dict ((kvs.map fun kv => kD kv.1).zip ds)) := by
  rintro X pins σ s rfl I u ru
  obtain rfl : u = Value.ref a := ru
  obtain ⟨hz, hs, vs, rel, o, es, ep, ho, ⟨hc, _, _⟩, hdat, _, hp, _⟩ := I.hok _ _ h
  have all : ∀ (es : List DictEntry) (vs : List (Key × Value)) (kvs : List (Key × V)) (ds : List PyData), Pairs (mixKind X.prog X.w) es vs → KV kvs vs → Paired (fun (kv : Key × V) d => Ty X.K H kv.2 d) kvs ds →
      ReadsAll s.heap (es.map (·.key)) (((kvs.map fun kv => kD kv.1).zip ds).map (·.1)) [] ∧ ∃ bs, ReadsAll s.heap (es.map (·.val)) (((kvs.map fun kv => kD kv.1).zip ds).map (·.2)) bs ∧ sysModules ∉ bs := by
    intro es vs kvs ds p
    induction p generalizing kvs ds with
    | nil =>
      intro r q
      cases r
      cases q
      exact ⟨.nil, [], .nil, by simp⟩
    | @cons e kv es vs k1 k2 _ ih =>
      intro r q
      cases r with
      | @cons kv' _ kvs' _ r1 r2 =>
        cases q with
        | @cons _ d _ ds' q1 q2 =>
          obtain ⟨i1, bs, i2, i3⟩ := ih _ _ r2 q2
          obtain ⟨as, z1, z2⟩ := q1 X pins σ s rfl I _ r1.2
          have ek : Reads s.heap e.key (kD kv'.1) [] := by
            have k1' : keyIs kv.1 e.key = true := k1
            rw [← r1.1] at k1'
            rcases keyIs_shape k1' with ⟨i, t, e1, e2⟩ | ⟨x, t, e1, e2⟩
            · rw [e1, e2]
              exact .int i t
            · rw [e1, e2]
              exact .str x t
          refine ⟨.cons ek i1, as ++ bs, .cons (by show Reads s.heap e.val d as; rw [k2]; exact z1) i2, fun w => ?_⟩
          rcases List.mem_append.mp w with w | w
          · exact z2 w
          · exact i3 w
  obtain ⟨i1, bs, i2, i3⟩ := all _ _ _ _ hp rel hd
  refine ⟨_, Reads.dict ho hc hdat i1 i2, fun w => ?_⟩
  rcases List.mem_append.mp w with w | w
  · rcases List.mem_cons.mp w with w | w
    · rw [← w] at hs
      simp at hs
    · simp at w
  · exact i3 w
end
/-- repr(v) -/
def rRp (K : PySem.W.Frag) : List V → Hp → VK → Prop := fun xs H Q => ∃ v d, xs = [v] ∧ Tx K H v d ∧ d.showable = true ∧ d.depth ≤ 60 ∧ d.shown.length ≤ sizeLine ∧ Q (.str d.shown) H
theorem call_rp {X : Cx} (gd : X.A.guards = some []) (hu : X.A.units + 64 < cLine) : CallR X (.builtin "repr") (rRp X.K) := by
  intro pins s σ H xs us Q I r h
  obtain ⟨v, d, rfl, hv, hs, hd, hz, q⟩ := h
  obtain ⟨u, rfl, ru⟩ : ∃ u, us = [u] ∧ L2.RelV v u := by
    cases r with
    | cons r1 r2 =>
      cases r2
      exact ⟨_, rfl, r1⟩
  obtain ⟨as, rd, hm⟩ := hv X pins σ s rfl I u ru
  have fin : ∀ h' u tk, (∀ b o, s.heap.get? b = some o → h'.get? b = some o) → EP X pins σ Q (.str d.shown u) { s with heap := h', toks := tk } := fun h' u tk k => ⟨.str d.shown, H, I.kept k, ⟨u, rfl⟩, q⟩
  have tok : ∀ u tk, EP X pins σ Q (.str d.shown u) { s with toks := tk } := fun u tk => fin s.heap u tk fun _ _ z => z
  cases rd with
  | none => exact PySem.P.repr_of_none (tok _ _)
  | bool b => exact PySem.P.repr_of_bool (tok _ _)
  | int i t => exact PySem.P.repr_of_int (of_decide_eq_true hs) (tok _ _)
  | str x t => exact PySem.P.repr_of_str (tok _ _) hz
  | list h1 h2 h3 h4 => exact repr_of_reads' (.list h1 h2 h3 h4) hs hm gd (by omega) (fun _ _ z => z) (fun h' u tk k => fin h' u tk k) hz
  | tuple h1 h2 h3 h4 => exact repr_of_reads' (.tuple h1 h2 h3 h4) hs hm gd (by omega) (fun _ _ z => z) (fun h' u tk k => fin h' u tk k) hz
  | dict h1 h2 h3 h4 h5 => exact repr_of_reads' (.dict h1 h2 h3 h4 h5) hs hm gd (by omega) (fun _ _ z => z) (fun h' u tk k => fin h' u tk k) hz
end Rp
-- part TShow
set_option maxHeartbeats 4000000
/-! repr of the tuples. -/
namespace Kn
open PySem PySem.Spec PyProof.Rows L2 Err Rp
def tupsD (L : Tps) : PyData := .dict (L.map fun p => (.int p.1, .tuple (p.2.map PyData.int)))
theorem ofString_length' (s : String) : (Str.ofString s).length = s.length := by
  first | exact PySem.StrLaws.ofString_length s | exact PySem.ofString_length s | exact ofString_length s
theorem int_show {i : Int} (h : i.natAbs < 10 ^ 21) : (PyData.int i).showable = true ∧ (PyData.int i).leavesShort 22 = true := by
  constructor
  · show decide (i.natAbs.log2 < 1920) = true
    refine decide_eq_true ?_
    have e : (10 : Nat) ^ 21 < 2 ^ 1920 := by decide +kernel
    by_cases z : i.natAbs = 0
    · rw [z]
      decide
    · exact (Nat.log2_lt z).mpr (Nat.lt_trans h e)
  · show decide ((PyData.shown (.int i)).length ≤ 22) = true
    refine decide_eq_true ?_
    have e := int_text_length_le10 (k := 21) (by decide) h
    show (Str.ofString (toString i)).length ≤ 22
    rw [ofString_length']
    exact e
theorem ints_ok : ∀ ns : List Int, Sml ns → PyData.showableAll (ns.map PyData.int) = true ∧ PyData.leavesShortAll 22 (ns.map PyData.int) = true ∧ PyData.bulkAll (ns.map PyData.int) ≤ ns.length * 10 ∧ PyData.depthAll (ns.map PyData.int) ≤ 1
  | [], _ => ⟨rfl, rfl, Nat.zero_le _, Nat.zero_le _⟩
  | n :: ns, h => by
    obtain ⟨t1, t2⟩ := int_show (h n (List.mem_cons_self ..))
    obtain ⟨b1, b2, b3, b4⟩ := ints_ok ns fun y hy => h y (List.mem_cons_of_mem _ hy)
    have w : (PyData.int n).bulk ≤ 9 := by simp only [PyData.bulk]; decide
    have dp : (PyData.int n).depth ≤ 0 := by simp only [PyData.depth]; omega
    rw [List.map_cons]
    refine ⟨?_, ?_, ?_, ?_⟩
    · simp only [PyData.showableAll, t1, b1, Bool.and_self]
    · simp only [PyData.leavesShortAll, t2, b2, Bool.and_self]
    · simp only [PyData.bulkAll, List.length_cons]
      omega
    · simp only [PyData.depthAll]
      omega
theorem tups_ok : ∀ L : Tps, (∀ p ∈ L, p.1.natAbs < 10 ^ 21 ∧ p.2.length ≤ 45 ∧ Sml p.2) → PyData.showableKv (L.map fun p => (PyData.int p.1, PyData.tuple (p.2.map PyData.int))) = true ∧ PyData.leavesShortKv 22 (L.map fun p => (PyData.int p.1, PyData.tuple (p.2.map PyData.int))) = true ∧
    PyData.bulkKv (L.map fun p => (PyData.int p.1, PyData.tuple (p.2.map PyData.int))) ≤ L.length * 500 ∧ PyData.depthKv (L.map fun p => (PyData.int p.1, PyData.tuple (p.2.map PyData.int))) ≤ 5
  | [], _ => ⟨rfl, rfl, Nat.zero_le _, Nat.zero_le _⟩
  | q :: L, h => by
    obtain ⟨h1, h2, h3⟩ := h q (List.mem_cons_self ..)
    obtain ⟨s1, s2⟩ := int_show h1
    obtain ⟨t1, t2, t3, t4⟩ := ints_ok q.2 h3
    obtain ⟨b1, b2, b3, b4⟩ := tups_ok L fun y hy => h y (List.mem_cons_of_mem _ hy)
    have w : (PyData.int q.1).bulk ≤ 9 := by simp only [PyData.bulk]; decide
    have dp : (PyData.int q.1).depth ≤ 0 := by simp only [PyData.depth]; omega
    have dp2 : (PyData.tuple (q.2.map PyData.int)).depth ≤ 4 := by simp only [PyData.depth]; omega
    rw [List.map_cons]
    refine ⟨?_, ?_, ?_, ?_⟩
    · have e : PyData.showableKv ((PyData.int q.1, PyData.tuple (q.2.map PyData.int)) :: L.map fun p => (PyData.int p.1, PyData.tuple (p.2.map PyData.int))) = ((PyData.int q.1).showable && PyData.showableAll (q.2.map PyData.int) && PyData.showableKv (L.map fun p => (PyData.int p.1, PyData.tuple (p.2.map PyData.int)))) := rfl
      rw [e, s1, t1, b1]
      rfl
    · have e : PyData.leavesShortKv 22 ((PyData.int q.1, PyData.tuple (q.2.map PyData.int)) :: L.map fun p => (PyData.int p.1, PyData.tuple (p.2.map PyData.int))) = ((PyData.int q.1).leavesShort 22 && PyData.leavesShortAll 22 (q.2.map PyData.int) && PyData.leavesShortKv 22 (L.map fun p => (PyData.int p.1, PyData.tuple (p.2.map PyData.int)))) := rfl
      rw [e, s2, t2, b2]
      rfl
    · simp only [PyData.bulkKv, List.length_cons]
      have e : (PyData.tuple (q.2.map PyData.int)).bulk = PyData.bulkAll (q.2.map PyData.int) := by simp only [PyData.bulk]
      omega
    · simp only [PyData.depthKv]
      omega
theorem tups_show {L : Tps} (h : ∀ p ∈ L, p.1.natAbs < 10 ^ 21 ∧ p.2.length ≤ 45 ∧ Sml p.2) (n : L.length ≤ 8) : (tupsD L).showable = true ∧ (tupsD L).depth ≤ 60 ∧ (tupsD L).shown.length ≤ sizeLine := by
  obtain ⟨a, b, c, d⟩ := tups_ok L h
  refine ⟨a, ?_, ?_⟩
  · simp only [tupsD, PyData.depth]
    omega
  · have z := PyData.shown_le_bulk 22 (by decide) (tupsD L) b
    have w : (tupsD L).bulk ≤ 4000 := by
      show PyData.bulkKv _ ≤ 4000
      omega
    have e : (22 + 2) * (tupsD L).bulk ≤ 24 * 4000 := Nat.mul_le_mul (by decide) w
    rw [sizeLine_eq]
    omega
section
variable {K : PySem.W.Frag} {H : Hp}
theorem ints_read : ∀ {ns : List Int} {us : List Value} {h : Heap}, Vals (ns.map V.int) us → ReadsAll h us (ns.map PyData.int) []
  | [], _, _, .nil => .nil
  | n :: ns, _, _, .cons r rs => by
    obtain ⟨tk, rfl⟩ := r
    exact ReadsAll.cons (.int _ _) (ints_read rs)
theorem row_ty {v : V} {ns : List Int} (h : Row H v ns) : Ty K H v (.tuple (ns.map PyData.int)) := by
  obtain ⟨a, rfl, hr, _⟩ := h
  rintro X pins σ s rfl I u ru
  obtain rfl : u = Value.ref a := ru
  obtain ⟨its, rv, ⟨o, ho, hc, n, hd⟩, _⟩ := I.tuple (.inl hr)
  exact ⟨[], Reads.tuple ho hc hd (by simpa using ints_read rv), by simp⟩
theorem kvI_ty {ks : List (Key × V)} {L : Tps} (h : KvI H ks L) : Paired (fun (kv : Key × V) d => Ty K H kv.2 d) ks (L.map fun p => PyData.tuple (p.2.map PyData.int)) ∧ (ks.map fun kv => kD kv.1).zip (L.map fun p => PyData.tuple (p.2.map PyData.int)) = L.map fun p => (PyData.int p.1, PyData.tuple (p.2.map PyData.int)) := by
  induction h with
  | nil => exact ⟨.nil, rfl⟩
  | cons r _ ih => exact ⟨.cons (row_ty r) ih.1, congrArg (_ :: ·) ih.2⟩
theorem tups_ty {a : Addr} {L : Tps} (h : TupD H a L) : Ty K H (.ref a) (tupsD L) := by
  obtain ⟨ks, e, h⟩ := h
  obtain ⟨z1, z2⟩ := kvI_ty (K := K) h
  have q := Ty.dK e z1
  rw [z2] at q
  exact q
end
end Kn
-- part TKw
set_option maxHeartbeats 4000000
/-! f(k = v, ..): keywords alone. -/
namespace L2
open PySem PySem.Spec PyProof.Rows
section
variable {X : Cx} {CX : CXT} {k : Nat} {f : Addr} {fd : FuncData} {ps ks : List Str} {sp : Sp} {E : XK} {x : Str} {p pos : Pos} {kws : List Keyword} {tk : TA} {g : List Value → List Value → List Value} {gV : List V → List V → List V}
theorem pe_callN0 (F : FnOk X.prog X.w X.K X.mg X.base CX k f fd ps sp) (hr : Room k X.A) (hg : Gl X x) (hm : X.mg x = some (.ref f)) (hk : PySem.W.keepIn X.K (.ref f) = true) (hb : KBn X.K fd ps 0 ks g gV) (hx : Passes CX X E)
    (hkw : PK X kws tk) (hall : (backToKw pos (keywordEach kws X.env)).all (·.1.isSome) = true := by rfl) (hks : (backToKw pos (keywordEach kws X.env)).filterMap (·.1) = ks := by rfl)
    (hdb : (x == ("__debug__" : Str)) = false := by decide)
    (hpl : ((backTo pos (starEach [] X.env)).any (·.1) || (backToKw pos (keywordEach kws X.env)).any (·.1.isNone)) = false := by rfl) :
    PE X (.Call (.Name x p) [] kws pos) (tCallN 0 ks.length sp gV E tNil tk) := by
  refine ⟨fun pins s σ H Q I h => ?_⟩
  refine wpAny_Call_Name_kw (ld_glob I hg hm ?_ hdb)
  refine PySem.W.callWith_KW0 (h₀ := X.base) I.ok.mod.kin hk hall ?_ hpl
  refine thn (hkw.run pos pins s σ H _ I h) fun ws s2 ⟨zs, H2, I2, rz, l1, l2, q2⟩ => ⟨I2.kIn, ?_⟩
  rw [hks]
  exact run_fnN (us := []) (vs := []) F hr hb hx I2 .nil rz rfl l2 q2
end
end L2
-- part TLw
set_option maxHeartbeats 4000000
/-! What the law calls with: its words, its data. -/
namespace L2
open PySem PySem.Spec PyProof.Rows
theorem PSs.pre {X : Cx} {ss : List Stmt} {t : TS} (Pre : TS) (h : PSs X ss t) (w : ∀ D σ H, Pre D σ H → t D σ H) : PSs X ss Pre := ⟨fun pins s σ H D I z => h.run pins s σ H D I (w _ _ _ z)⟩
theorem PS.pre {X : Cx} {ss : Stmt} {t : TS} (Pre : TS) (h : PS X ss t) (w : ∀ D σ H, Pre D σ H → t D σ H) : PS X ss Pre := ⟨fun pins s σ H D I z => h.run pins s σ H D I (w _ _ _ z)⟩
end L2
namespace Kn
open PySem PySem.Spec PyProof.Rows L2 Err Rp
def rowT (ns : List Int) : W := .tup (ns.map W.int)
theorem ints_is {H : Hp} : ∀ ns : List Int, IsAll H (ns.map V.int) (ns.map W.int)
  | [] => .nil
  | n :: ns => .cons (.int n) (ints_is ns)
theorem Row.is {H : Hp} {v : V} {ns : List Int} (h : Row H v ns) : Is H v (rowT ns) := by
  obtain ⟨a, rfl, hr, z⟩ := h
  exact .tup (by rw [List.length_map]; omega) hr (ints_is ns)
theorem num_int (i : Int) : isNum (.int i) = true := by kernel_rfl
theorem nums_ok {ns : List Int} (h : ns.length ≤ 45) : tupNW (rowT ns) = true := by
  show (decide (((ns.map W.int).length : Int) ≤ 45) && (ns.map W.int).all isNum) = true
  have e2 : (ns.map W.int).all isNum = true := by
    rw [List.all_eq_true]
    intro x hx
    obtain ⟨i, _, rfl⟩ := List.mem_map.mp hx
    exact num_int i
  rw [e2, List.length_map, decide_eq_true (show ((ns.length : Nat) : Int) ≤ 45 by omega)]
  rfl
theorem len_row (ns : List Int) : lenW (rowT ns) = ns.length := List.length_map ..
theorem wide_rows {wd : Nat} {ls : List (List Int)} (h : ∀ r ∈ ls, r.length = wd) : wideW (ls.map rowT) = true := by
  cases ls with
  | nil => rfl
  | cons r ls =>
    rw [List.map_cons]
    show ((rowT r :: ls.map rowT).all fun x => decide (lenW x = lenW (rowT r))) = true
    rw [List.all_eq_true]
    intro x hx
    rw [← List.map_cons] at hx
    obtain ⟨q, hq, rfl⟩ := List.mem_map.mp hx
    rw [len_row, len_row, h q hq, h r (List.mem_cons_self ..)]
    exact decide_eq_true rfl
theorem nums_all {wd : Nat} {ls : List (List Int)} (h : ∀ r ∈ ls, r.length = wd) (w45 : wd ≤ 45) : (ls.map rowT).all tupNW = true := by
  rw [List.all_eq_true]
  intro x hx
  obtain ⟨q, hq, rfl⟩ := List.mem_map.mp hx
  exact nums_ok (by rw [h q hq]; exact w45)
theorem checks_ok {w : W} {wd : Nat} {ls : List (List Int)} (e : seqW w = some (ls.map rowT)) (h : ∀ r ∈ ls, r.length = wd) (w45 : wd ≤ 45) (n4 : ls.length ≤ 4) : checksW w = true := by
  unfold checksW
  rw [e]
  show (decide (((ls.map rowT).length : Int) ≤ 4) && ((ls.map rowT).all tupNW && wideW (ls.map rowT))) = true
  rw [nums_all h w45, wide_rows h, List.length_map, decide_eq_true (show ((ls.length : Nat) : Int) ≤ 4 by omega)]
  rfl
def optT : Option (List Int) → W
  | none => .non
  | some ns => rowT ns
theorem OptRow.is {H : Hp} {v : V} {o : Option (List Int)} (h : OptRow H v o) : Is H v (optT o) := by
  cases o with
  | none =>
    obtain rfl : v = V.non := h
    exact .non
  | some ns => exact Row.is h
theorem there_eq (ob ol : Option (List Int)) : thereW (optT ob) (optT ol) = (ob.toList ++ ol.toList).map rowT := by
  cases ob <;> cases ol <;> rfl
theorem rows_all {H : Hp} : ∀ {vs : List V} {ls : List (List Int)}, RowsL H vs ls → IsAll H vs (ls.map rowT)
  | [], [], _ => .nil
  | [], _ :: _, h => absurd h.1 (by simp)
  | _ :: _, [], h => absurd h.1 (by simp)
  | v :: vs, l :: ls, h => by
    obtain ⟨ns, e, r⟩ := h.2 0 v rfl
    cases e
    exact .cons r.is (rows_all ⟨Nat.succ.inj h.1, fun i x hx => h.2 (i + 1) x hx⟩)
/-- after_change where all is right -/
theorem after_case {CK CE CT : Addr} {H : Hp} {a : Addr} {b l : V} {xs : List V} {ls : List (List Int)} {sn : Int} {ob ol : Option (List Int)} {wd : Nat} {Q : VK} {E : XK} (ha : H a = some (.lst xs) ∨ Rd H a (.tup xs)) (hx : RowsL H xs ls) (s1 : 1 ≤ sn) (s9 : sn ≤ 9) (hb : OptRow H b ob) (hl : OptRow H l ol)
    (hr : ∀ r ∈ ls, r.length = wd) (hob : ∀ r, ob = some r → r.length = wd) (hol : ∀ r, ol = some r → r.length = wd) (w45 : wd ≤ 45) (n4 : xs.length ≤ 4)
    (q : ∀ p ys H', Same H H' → H p = none → H' p = some (.lst ys) → RowsL H' ys (afterN sn ob ol ls xs.length) → Q (.ref p) H') : spAfter CK CE CT [.ref a, .int sn, b, l] H Q E := by
  have lx : xs.length = ls.length := hx.1
  have two : ∀ {w : W} (_ : Is H (.ref a) w) (_ : seqW w = some (ls.map rowT)), spAfter CK CE CT [.ref a, .int sn, b, l] H Q E := fun {w} iw ew => by
    refine ⟨_, _, _, _, w, .int sn, optT ob, optT ol, rfl, iw, .int sn, hb.is, hl.is, .inr (.inr (.inr ⟨checks_ok ew hr w45 (by omega), ?_, _, ew, ?_, a, xs, ls, sn, ob, ol, wd, rfl, ha, hx, rfl, hb, hl, hr, hob, hol, n4, q⟩))⟩
    · show (decide ((1 : Int) ≤ sn) && decide (sn ≤ 9)) = true
      rw [decide_eq_true s1, decide_eq_true s9]
      rfl
    · have hm : ∀ r ∈ ls.take 1 ++ (ob.toList ++ ol.toList), r.length = wd := fun r hr' => by
        rcases List.mem_append.mp hr' with z | z
        · exact hr r (List.mem_of_mem_take z)
        · rcases List.mem_append.mp z with z | z
          · exact hob r (Option.mem_toList.mp z)
          · exact hol r (Option.mem_toList.mp z)
      rw [there_eq, nums_all (fun r hr' => hm r (List.mem_append_right _ hr')) w45, ← List.map_take, ← List.map_append, wide_rows hm]
      rfl
  rcases ha with ha | ha
  · exact two (.lst (by omega) ha (rows_all hx)) rfl
  · exact two (.tup (by omega) ha (rows_all hx)) rfl
/-! ### lists of rows, as data -/
def rowsD (ls : List (List Int)) : PyData := .list (ls.map fun r => .tuple (r.map PyData.int))
theorem rows_dpa {K : PySem.W.Frag} {H : Hp} : ∀ {vs : List V} {ls : List (List Int)}, RowsL H vs ls → DpAll K H vs (ls.map fun r => PyData.tuple (r.map PyData.int))
  | [], [], _ => .nil
  | [], _ :: _, h => absurd h.1 (by simp)
  | _ :: _, [], h => absurd h.1 (by simp)
  | v :: vs, l :: ls, h => by
    obtain ⟨ns, e, a, rfl, r, z⟩ := h.2 0 v rfl
    cases e
    exact .cons (.tup (.inl r) (dp_ints' _)) (rows_dpa ⟨Nat.succ.inj h.1, fun i x hx => h.2 (i + 1) x hx⟩)
theorem rows_dp {K : PySem.W.Frag} {H : Hp} {a : Addr} {vs : List V} {ls : List (List Int)} (e : H a = some (.lst vs)) (h : RowsL H vs ls) : Dp K H (.ref a) (rowsD ls) := .lst (SqL.of e) (rows_dpa h)
theorem lay_ints : ∀ ns : List Int, PyData.canLayAll0 (ns.map PyData.int) = true
  | [] => rfl
  | n :: ns => by
    show (PyData.canLay0 (.int n) && PyData.canLayAll0 (ns.map PyData.int)) = true
    rw [lay_ints ns]
    rfl
theorem rows_lay : ∀ ls : List (List Int), PyData.canLayAll0 (ls.map fun r => PyData.tuple (r.map PyData.int)) = true ∧ PyData.depthAll (ls.map fun r => PyData.tuple (r.map PyData.int)) ≤ 2
  | [] => ⟨rfl, Nat.zero_le _⟩
  | r :: ls => by
    obtain ⟨h1, h2⟩ := rows_lay ls
    refine ⟨?_, ?_⟩
    · show (PyData.canLay0 (.tuple (r.map PyData.int)) && PyData.canLayAll0 (ls.map fun r => PyData.tuple (r.map PyData.int))) = true
      rw [h1, Bool.and_true]
      show PyData.canLayAll0 (r.map PyData.int) = true
      exact lay_ints r
    · have e := depth_ints r
      rw [List.map_cons]
      simp only [PyData.depthAll, PyData.depth]
      omega
theorem rows_shaped (ls : List (List Int)) : SeqAt.shaped (rowsD ls) = true := by
  obtain ⟨h1, h2⟩ := rows_lay ls
  unfold SeqAt.shaped
  rw [Bool.and_eq_true]
  refine ⟨h1, decide_eq_true ?_⟩
  unfold rowsD
  simp only [PyData.depth]
  omega
/-- equal lists of rows -/
theorem rows_ne {K : PySem.W.Frag} {H : Hp} {a b : Addr} {vs us : List V} {ls : List (List Int)} {Q : VK} (e1 : H a = some (.lst vs)) (h1 : RowsL H vs ls) (e2 : H b = some (.lst us)) (h2 : RowsL H us ls) (q : Q (.bl false) H) : rNeD K (.ref a) (.ref b) H Q := by
  refine ⟨rowsD ls, rowsD ls, rows_dp e1 h1, rows_dp e2 h2, rows_shaped ls, rows_shaped ls, ?_⟩
  rw [SeqAt.eqv_refl _ (SeqAt.canLay_of_shaped (rows_shaped ls))]
  exact q
/-! ### the tuples, as a word -/
def tupsWd (L : Tps) : W := .dct (L.map fun p => (K1 p.1, rowT p.2))
theorem kv_is {H : Hp} {ks : List (Key × V)} {L : Tps} (h : KvI H ks L) : IsKV H (ks.map fun p => (some p.1, p.2)) (L.map fun p => (K1 p.1, rowT p.2)) := by
  induction h with
  | nil => exact .nil
  | cons r _ ih => exact .cons trivial r.is ih
theorem tups_is {H : Hp} {a : Addr} {L : Tps} {wd : Nat} (h : TupD H a L) (ok : TOk L wd) : Is H (.ref a) (tupsWd L) := by
  obtain ⟨ks, e, hk⟩ := h
  have n9 := ok.n9
  exact .dct (by rw [List.length_map, hk.len]; omega) ⟨ks, .inl e, rfl⟩ (kv_is hk)
theorem tups_good {L : Tps} {wd : Nat} (ok : TOk L wd) (l8 : L.length ≤ 8) : tuplesW (tupsWd L) = true := by
  have n1 := ok.n1
  have w45 := ok.w45
  show tuplesW (.dct (L.map fun p => (K1 p.1, rowT p.2))) = true
  rw [tuplesW_eq]
  have e1 : (L.map fun p => (K1 p.1, rowT p.2)).all (fun p => seatK p.1) = true := by
    rw [List.all_eq_true]
    intro x hx
    obtain ⟨p, hp, rfl⟩ := List.mem_map.mp hx
    have z := ok.st p hp
    show (decide (1 ≤ p.1) && decide (p.1 ≤ 9)) = true
    rw [decide_eq_true z.1, decide_eq_true z.2]
    rfl
  have e2 : (L.map fun p => (K1 p.1, rowT p.2)).all (fun p => tupNW p.2) = true := by
    rw [List.all_eq_true]
    intro x hx
    obtain ⟨p, hp, rfl⟩ := List.mem_map.mp hx
    exact nums_ok (by rw [ok.ww p hp]; exact w45)
  have e3 : wideW ((L.map fun p => (K1 p.1, rowT p.2)).map (·.2)) = true := by
    have z : ((L.map fun p => (K1 p.1, rowT p.2)).map (·.2)) = (L.map (·.2)).map rowT := by
      rw [List.map_map, List.map_map]
      rfl
    rw [z]
    refine wide_rows (wd := wd) fun r hr => ?_
    obtain ⟨p, hp, rfl⟩ := List.mem_map.mp hr
    exact ok.ww p hp
  rw [e1, e2, e3, List.length_map, decide_eq_true (show (1 : Int) ≤ ((L.length : Nat) : Int) by omega), decide_eq_true (show ((L.length : Nat) : Int) ≤ 8 by omega)]
  rfl
end Kn
-- part Lam
set_option maxHeartbeats 2000000
/-! A lambda kept as a value; called later, through a def, in a comprehension of the same frame. -/
namespace HLam
open PySem PySem.Spec PyProof.Rows L2 LamX
/-- the lambda at f: its text, what it captured, its code object -/
structure LD where
  qual : Str
  params : Arguments
  body : Expr
  scope : Scope
  cl : List (Str × Addr)
  c : Addr
def LamO (f : Addr) (D : LD) : HO := .ext fun h => ∃ pm ctv : Value, h.get? f = some (PySem.W.kla_obj "<lambda>" D.qual D.params D.body D.scope D.cl pm D.c ctv)
theorem lamO_ne {f : Addr} {D : LD} (ps : Array Value) : LamO f D ≠ .tbl ps := fun z => by
  unfold LamO at z
  cases z
def ldOf (X : Cx) (params : Arguments) (body : Expr) (scope : Scope) (c : Addr) : LD := ⟨X.env.qual ++ "<lambda>", params, body, scope, cloFrom X.env.cells scope.names [], c⟩
section
variable {X : Cx} {pins : List (Addr × Obj)} {σ : L2.St} {H : Hp} {s : Shared}
/-- made: from then on known -/
theorem lam_known {D : LD} {h' : Heap} {tk : Nat} {pm ctv : Value} (I : Inv X pins σ H { s with heap := h', toks := tk }) :
    Inv X pins σ (upd H h'.objs.size (LamO h'.objs.size D)) { s with heap := h'.push (PySem.W.kla_obj "<lambda>" D.qual D.params D.body D.scope D.cl pm D.c ctv), toks := tk } := by
  have at_ : (h'.push (PySem.W.kla_obj "<lambda>" D.qual D.params D.body D.scope D.cl pm D.c ctv)).get? h'.objs.size = some (PySem.W.kla_obj "<lambda>" D.qual D.params D.body D.scope D.cl pm D.c ctv) := Heap.get?_push_size _ rfl
  exact I.laid (a := h'.objs.size) (t' := tk) (fun b u e => Heap.get?_push_of_some _ e) (Nat.le_refl _)
    ⟨⟨pm, ctv, at_⟩, ⟨_, at_⟩, fun h1 h2 q st => by
      obtain ⟨p2, t2, q⟩ := q
      exact ⟨p2, t2, st _ q⟩⟩
theorem upd_none {H : Hp} {a b : Addr} {o : HO} (e : upd H a o b = none) : H b = none := by
  by_cases z : b = a
  · rw [z, upd_same] at e
    cases e
  · rw [upd_ne z] at e
    exact e
/-- what a lambda's making gives -/
def tKept (T : List (Addr × Str)) (X : Cx) (params : Arguments) (body : Expr) (scope : Scope) : TE := fun _ H Q =>
  Tabs T H ∧ ∀ (f c' : Addr) (H1 : Hp), ExtN H H1 → Tabs T H1 → (∀ b, H1 b = none → H b = none) → H f = none →
    H1 f = some (LamO f (ldOf X params body scope c')) → H1 c' = some (CodeO c' (X.env.qual ++ "<lambda>")) → Q (.ref f) H1
theorem pe_lamkept {T : List (Addr × Str)} {c P : Addr} {params : Arguments} {body : Expr} {scope : Scope} {pos : Pos} (TB : TabB X.base X.mg c P) (hcode : X.env.code = .ref c) (hm : (P, X.env.qual ++ "<lambda>") ∈ T)
    (hu : ∀ p ∈ T, p.1 = P → p.2 = X.env.qual ++ "<lambda>") (L : LamS X.env.scope scope) (hdef : defaultsOf params X.env = ([], [])) : PE X (.Lambda params body scope pos) (tKept T X params body scope) := by
  constructor
  intro pins s σ H Q I w
  obtain ⟨hT, w⟩ := w
  obtain ⟨ps, hP, tri, amo⟩ := hT _ hm
  have objP : s.heap.get? P = some { cls := .none, data := .fields ps } := I.hok P _ hP
  have bP := TB.bm.keeps I.bk
  have free := closure_ok (L.has I.ok)
  apply PySem.W.kla_eval hdef
  cases hca : codeAmong pos ps.toList with
  | some cv =>
    obtain ⟨c', rfl, hc'⟩ := amo pos cv hca
    apply PySem.W.kla_makeFunctionHit (c := c) (mg := X.mg) (P := P) (ps := ps) free I.ok.glob (I.mod.glob.keeps I.bk) hcode (TB.code.keeps I.bk) objP tri hca bP
    intro ctv h' tk ext le
    have J : Inv X pins σ H { s with heap := h', toks := tk } := I.kept ext
    have nf : H h'.objs.size = none := I.hok.fresh le
    have J2 := lam_known (D := ldOf X params body scope c') (pm := (X.mg "__name__").getD .none) (ctv := ctv) J
    have B : ∀ b o, H b = some o → upd H h'.objs.size (LamO h'.objs.size (ldOf X params body scope c')) b = some o := fun b o e => by
      rw [upd_ne (ne_of_none e nf)]
      exact e
    exact ⟨.ref h'.objs.size, _, J2, rfl, w h'.objs.size c' _ (ExtN.of B) (hT.ext B) (fun b e => upd_none e) nf upd_same (B _ _ hc')⟩
  | none =>
    apply PySem.W.kla_makeFunction (c := c) (mg := X.mg) (P := P) (ps := ps) free I.ok.glob (I.mod.glob.keeps I.bk) hcode (TB.code.keeps I.bk) objP tri hca TB.gP bP
    intro c' ctv h' tk ext ge lt rec tab
    obtain ⟨c2, oc, vs, t, e2, q1, q2, q3⟩ := rec
    cases e2
    have nc : H c' = none := I.hok.fresh ge
    have J := inv_table (more := #[rawInt pos.line, rawInt pos.col, .ref c']) (h' := h') (t' := tk) I hP (fun b o hb e => ext b o hb e) tab ge ⟨oc, vs, t, q1, q2, q3⟩
    have listy : (ps ++ #[rawInt pos.line, rawInt pos.col, .ref c']).toList = ps.toList ++ [rawInt pos.line, rawInt pos.col, .ref c'] := by simp
    have PC : P ≠ c' := ne_of_none hP nc
    generalize hG : upd (upd H P (.tbl (ps ++ #[rawInt pos.line, rawInt pos.col, .ref c']))) c' (CodeO c' (X.env.qual ++ "<lambda>")) = G at J
    have GP : G P = some (.tbl (ps ++ #[rawInt pos.line, rawInt pos.col, .ref c'])) := by rw [← hG, upd_ne PC, upd_same]
    have Gc : G c' = some (CodeO c' (X.env.qual ++ "<lambda>")) := by rw [← hG, upd_same]
    have Go : ∀ b o, H b = some o → b ≠ P → G b = some o := fun b o e n => by
      rw [← hG, upd_ne (ne_of_none e nc), upd_ne n]
      exact e
    have GE : ExtN H G := fun b o e n => Go b o e fun z => n ps (by rw [z, hP] at e; exact (Option.some.inj e).symm)
    have Gn : ∀ b, G b = none → H b = none := fun b e => by
      rw [← hG] at e
      exact upd_none (upd_none e)
    have nf : H h'.objs.size = none := I.hok.fresh (Nat.le_trans ge (Nat.le_of_lt lt))
    have nfG : G h'.objs.size = none := J.hok.fresh (Nat.le_refl _)
    have TG : Tabs T G := fun p hp => by
      by_cases z : p.1 = P
      · rw [hu p hp z, z]
        refine ⟨_, GP, ?_, ?_⟩
        · rw [listy]
          exact PySem.TriplesOk_snoc _ _ _ _ tri
        · intro pp cv q
          rw [listy] at q
          cases among_app _ tri q with
          | inr e => exact ⟨c', e, Gc⟩
          | inl e =>
            obtain ⟨c0, e1, e2⟩ := amo pp cv e
            exact ⟨c0, e1, GE _ _ e2 codeO_ne⟩
      · obtain ⟨ps2, a1, a2, a3⟩ := hT p hp
        refine ⟨ps2, Go _ _ a1 z, a2, fun pp cv q => ?_⟩
        obtain ⟨c0, e1, e2⟩ := a3 pp cv q
        exact ⟨c0, e1, GE _ _ e2 codeO_ne⟩
    have J2 := lam_known (D := ldOf X params body scope c') (pm := (X.mg "__name__").getD .none) (ctv := ctv) J
    have B : ∀ b o, G b = some o → upd G h'.objs.size (LamO h'.objs.size (ldOf X params body scope c')) b = some o := fun b o e => by
      rw [upd_ne (ne_of_none e nfG)]
      exact e
    exact ⟨.ref h'.objs.size, _, J2, rfl, w h'.objs.size c' _ (GE.trans (ExtN.of B)) (TG.ext B) (fun b e => Gn b (upd_none e)) nf upd_same (B _ _ Gc)⟩
end
end HLam
namespace HLam
open PySem PySem.Spec PyProof.Rows L2 LamX
section
variable {X : Cx}
/-- a comprehension whose tests and items may lean on what stood where its block began -/
theorem pe_lcI {elt tg iter : Expr} {ifs : List Expr} {scope : Scope} {own : List (Str × Nat)} {pos : Pos} {wi : TI} {g : TG} {tt : L2.St → TT} {te : L2.St → TE} (hc : X.calm = true) (hN : X.N.Nodup) (hi : PI X tg iter wi) (ok : BlkOk X.N X.env.scope scope own)
    (hg : ∀ (s : Shared) (H : Hp) (C : Addr) (cl : List (Str × Addr)) (fp : List Addr), PG (X.blk s H scope (compEnvC scope cl C X.env) fp) tg g)
    (hp : ∀ (pins : List (Addr × Obj)) (σ : L2.St) (s : Shared) (H : Hp) (C : Addr) (cl : List (Str × Addr)) (fp : List Addr), Inv X pins σ H s → (∀ b ∈ fp, FpOk X pins H b) →
      PTs (X.blk s H scope (compEnvC scope cl C X.env) fp) ifs (tt σ) ∧ PE (X.blk s H scope (compEnvC scope cl C X.env) fp) elt (te σ))
    (hs : ∀ x, foldedSetIterable iter X.env x = pure x := by intro _; rfl) :
    PE X (.ListComp elt [⟨tg, iter, ifs, 0⟩] scope pos) (fun σ H Q => tLc wi g (tt σ) (te σ) (own.map (·.2)) σ H Q) := by
  constructor
  intro pins s σ H Q I w
  rw [eval_ListComp]
  have captured : ∀ y ∈ scope.names, y.2 = .free → ∃ c, X.env.cells.lookup y.1 = some c := fun y hy e => (ok.free y hy e).elim (fun k => I.ok.has _ (.inl k)) (fun k => I.ok.has _ (.inr k))
  apply wpAny_comprehension_free (use := none) rfl hs (closure_ok captured) ok.kind (fun y hy e => (ok.uniq y hy).trans (by rw [e]))
  apply thn (hi.run pins s σ H _ I w)
  intro xv sA hA
  apply thn hA
  rintro itv sB ⟨it, fp, tn, J, HB, rfl, IB, T, stB, okB, todo⟩
  refine wpAny_newObj_type (newEnv_comp ?_) (by show 0 ≤ sizeLine; decide)
  obtain ⟨D, eD⟩ : ∃ D, D = sB.heap.objs.size := ⟨_, rfl⟩
  rw [← eD]
  have freshD : HB D = none := IB.hok.fresh (Nat.le_of_eq eD.symm)
  obtain ⟨W, ⟨m0, start⟩, turn⟩ := todo D freshD
  obtain ⟨sC, eC⟩ : ∃ sC : Shared, sC = { sB with heap := sB.heap.push { cls := .type "list", data := .seq ([] : List Value).toArray } } := ⟨_, rfl⟩
  rw [← eC]
  have heapC : sC.heap = sB.heap.push { cls := .type "list", data := .seq ([] : List Value).toArray } := by rw [eC]
  have keptC : ∀ b o, sB.heap.get? b = some o → sC.heap.get? b = some o := fun b o e => by
    rw [heapC]
    exact Heap.get?_push_of_some _ e
  obtain ⟨HC, eHC⟩ : ∃ HC, HC = upd HB D (.lst []) := ⟨_, rfl⟩
  rw [← eHC] at start
  have IC : Inv X pins σ HC sC := by
    rw [eC, eHC, eD]
    exact IB.laid (t' := sB.toks) (fun b o e => Heap.get?_push_of_some _ e) (Nat.le_refl _) ⟨Nat.zero_le _, [], 0, .nil, Heap.get?_push_size _ rfl⟩
  have inC : ∀ b ∈ fp, FpOk X pins HC b ∧ b < sC.heap.objs.size := fun b hb => by
    obtain ⟨o, e, _⟩ := T.obj _ _ stB b hb
    refine ⟨⟨?_, (okB b hb).2⟩, Heap.lt_size (keptC _ _ e)⟩
    rw [eHC, upd_ne (by rw [eD]; exact Nat.ne_of_lt (Heap.lt_size e))]
    exact (okB b hb).1
  have stC : tn 0 sC.heap := T.keep _ _ _ stB fun b _ o e => keptC b o e
  have IE := block_start IC ok hN inC
  obtain ⟨pt, pe⟩ := hp pins σ sC HC sC.heap.objs.size (cellsFrom (sC.heap.objs.size + 1) scope.names (cloFrom X.env.cells scope.names [])) fp IC fun b hb => (inC b hb).1
  have pg := hg sC HC sC.heap.objs.size (cellsFrom (sC.heap.objs.size + 1) scope.names (cloFrom X.env.cells scope.names [])) fp
  generalize hce : compEnvC scope (cellsFrom (sC.heap.objs.size + 1) scope.names (cloFrom X.env.cells scope.names [])) sC.heap.objs.size X.env = ce at IE pt pe pg
  have ceL : ce.locals = sC.heap.objs.size := by rw [← hce]; rfl
  have goal : codeAny (model X.prog X.w) X.A (.compStart (.ListComp elt [⟨tg, iter, ifs, 0⟩] scope pos) 0 (.ref it) (.ref D) ce) (compPost (model X.prog X.w) X.A X.xe none (EP X pins σ Q) (.ref D) sC.heap.objs.size) { sC with heap := pushCells (sC.heap.push { cls := .type "dict", data := .dict #[] }) scope.names } := by
    generalize hsE : ({ sC with heap := pushCells (sC.heap.push { cls := .type "dict", data := .dict #[] }) scope.names } : Shared) = sE at IE
    have stE : tn 0 sE.heap := T.keep _ _ _ stC fun b _ o e => by
      rw [← hsE]
      exact pushCells_keeps _ _ _ _ (Heap.get?_push_of_some _ e)
    have fpIn : ∀ {ps : List (Addr × Obj)} {σ' : L2.St} {H' : Hp} {s' : Shared}, Inv (X.blk sC HC scope ce fp) ps σ' H' s' → (∀ b ∈ fp, H' b = none) → ∀ b ∈ fp, FpOk (X.blk sC HC scope ce fp) [] H' b := fun I' n b hb =>
      ⟨n b hb, (I'.ok.exf b hb).1, I'.ok.exfs b hb, .inl hb, fun x c e => (I'.ok.exf b hb).2 x c e, fun p hp => absurd (show p ∈ ([] : List (Addr × Obj)) ++ [] from hp) (by simp)⟩
    -- the loop
    have loop : codeAny (model X.prog X.w) X.A (.compLoop (.ListComp elt [⟨tg, iter, ifs, 0⟩] scope pos) 0 (.ref it) (.ref D) ce) (compPost (model X.prog X.w) X.A X.xe none (EP X pins σ Q) (.ref D) sC.heap.objs.size) sE := by
      apply compLoop_any (fun n s' => ∃ i H', Inv (X.blk sC HC scope ce fp) [] (wipe σ (own.map (·.2))) H' s' ∧ tn i s'.heap ∧ (∀ b ∈ fp, H' b = none) ∧ W i n H') _ m0 ⟨0, HC, IE, stE, fun b hb => (inC b hb).1.1, start⟩
      rintro n s5 ⟨i, H5, I5, st5, n5, w5⟩
      cases turn i n H5 w5 with
      | inl z =>
        apply thnF (T.done (X.blk sC HC scope ce fp) rfl rfl rfl hc i [] s5 _ H5 (fun _ _ => False) I5 (fpIn I5 n5) st5 z.1)
        rintro r s6 ⟨rfl, I6⟩
        have back : Inv X pins σ H5 s6 := IC.call' (ch := fp) I6.os I6.base I6.hok I6.bare fun b hb => ⟨(inC b hb).1.2.2.2.1, (inC b hb).1.2.1, (inC b hb).1.2.2.2.2.1, (inC b hb).1.2.2.2.2.2⟩
        have nL : H5 sC.heap.objs.size = none := ceL ▸ (show H5 ce.locals = none from I6.free)
        obtain ⟨m, ns, _⟩ := I6.loc
        have ns : s6.heap.Ns sC.heap.objs.size m := ceL ▸ (show s6.heap.Ns ce.locals m from ns)
        obtain ⟨f0, f1, f2, f3, f4, f5⟩ := IC.fpOk (Nat.le_refl _) nL
        exact ⟨m, ns, fun h'' sb => ⟨.ref D, H5, back.turned (t' := s6.toks) (fun b o hb e => (sb.2 b hb).trans e) f0 f1 f3 f4 f5, rfl, z.2⟩⟩
      | inr z =>
        obtain ⟨go, Nx, hNx, step⟩ := z
        apply thnF (T.item (X.blk sC HC scope ce fp) rfl rfl rfl hc i [] s5 _ H5 (fun _ _ => False) I5 (fpIn I5 n5) st5 go)
        rintro r s6 ⟨u, rfl, h6⟩
        apply thnF h6
        rintro _ s7 ⟨x, H7, I7, r7, y7, st7, n7⟩
        have I7p := I7.pinned (fpIn I7 n7) (T.obj _ _ st7)
        apply thnF (pg.run _ s7 _ H7 x u _ I7p r7 (step x H7 y7))
        rintro _ s8 ⟨σ8, H8, I8, hw8, q8⟩
        have close : ∀ {s' : Shared} {H' : Hp}, Inv (X.blk sC HC scope ce fp) ([] ++ pinsAt fp s7.heap) σ8 H' s' → Nx H' → ∃ m, m < n ∧ ∃ i H', Inv (X.blk sC HC scope ce fp) [] (wipe σ (own.map (·.2))) H' s' ∧ tn i s'.heap ∧ (∀ b ∈ fp, H' b = none) ∧ W i m H' := fun {s' H'} I' nx => by
          obtain ⟨m', less, w'⟩ := hNx H' nx
          have still : ∀ b ∈ fp, ∀ o, s7.heap.get? b = some o → s'.heap.get? b = some o ∧ H' b = none := fun b hb o e => by
            have z := I'.pin (b, o) (List.mem_append_right _ (List.mem_append_right _ (mem_pinsAt hb e)))
            exact ⟨z.1, z.2.1⟩
          refine ⟨m', less, i + 1, H', I'.unpinned.weak ?_ ?_, T.keep _ _ _ st7 fun b hb o e => (still b hb o e).1, ?_, w'⟩
          · rw [← hw8, wipe_length]
          · intro j v e
            rw [← hw8] at e
            exact (wipe_some e).1
          · intro b hb
            obtain ⟨o, e, _⟩ := T.obj _ _ st7 b hb
            exact (still b hb o e).2
        apply thnF (pt.run _ s8 σ8 H8 _ I8 q8)
        rintro b s9 ⟨H9, I9, q9⟩
        cases b with
        | false => exact close I9 q9
        | true =>
          apply thnF (pe.run _ s9 σ8 H9 _ I9 q9)
          rintro y s10 ⟨yv, H10, I10, r10, acc, hD, hz, nx⟩
          exact app_ok (X := X.blk sC HC scope ce fp) I10 hD hz r10 fun s11 I11 => close I11 nx
    exact codeAny_compStart_list loop (T.self X.A 0 _ _ _ stE loop)
  rw [← hce] at goal
  exact goal
end
end HLam
namespace HLam
open PySem PySem.Spec PyProof.Rows L2 LamX
/-- the cells of a frame stand as they stood -/
def CellsAs (X : Cx) (h0 : Heap) (H : Hp) (h : Heap) : Prop := ∀ (y : Str) (c : Addr) (v : Option Value), X.env.cells.lookup y = some c → h0.IsCell c v → h.IsCell c v ∧ H c = none
section
variable {X : Cx} {pins : List (Addr × Obj)} {σ : L2.St} {H HZ : Hp} {s s1 : Shared}
theorem CellsAs.un {fs ex : List Addr} {h0 h h1 : Heap} (k : CellsAs X h0 H h) (u : Un fs ex H HZ h h1) (hx : ∀ y c, X.env.cells.lookup y = some c → c ∉ ex) : CellsAs X h0 HZ h1 := fun y c v e z => by
  obtain ⟨⟨o, ho, hd⟩, n⟩ := k y c v e z
  obtain ⟨sl, q⟩ := u.any ho n (hx y c e)
  exact ⟨⟨_, q, hd⟩, u.free c o ho n (hx y c e)⟩
theorem CellsAs.here (I : Inv X pins σ H s) : CellsAs X s.heap H s.heap := fun y c v e z => ⟨z, I.freeC y c e⟩
/-- the lambda's body starts, its names as they stood at s -/
theorem lam_enter {A : Around} {outer : List Env} {E : XK} {scope : Scope} {f c' : Addr} {h₁ : Heap} {tk : Nat} (I : Inv X pins σ H s) (L : LamS X.env.scope scope) (e0 : Env0 X.prog X.w X.K X.mg X.base A outer s1 HZ) (hd : A.handled = none)
    (ck : CellsAs X s.heap HZ s1.heap) (hns : h₁.Ns s1.heap.objs.size fun y => ([] : List (Str × Value)).reverse.lookup y) (kp : ∀ b o, s1.heap.get? b = some o → h₁.get? b = some o) :
    Inv (lamCx X A outer s1 HZ E scope f c') [] σ HZ { s1 with heap := h₁, toks := tk } := by
  have has := L.has I.ok
  have own : ∀ {y c}, (cloFrom X.env.cells scope.names []).lookup y = some c → X.env.cells.lookup y = some c := fun {y c} e => by
    cases cloFrom_mem (PySem.mem_of_lookup e) with
    | inl hm => cases hm
    | inr h =>
      obtain ⟨h1, h2⟩ := h
      obtain ⟨c1, hc⟩ := has _ h1 rfl
      have hc : X.env.cells.lookup y = some c1 := hc
      rw [h2, hc]
      rfl
  have got : ∀ {y}, scope.names.lookup y = some .free → ∃ c, (cloFrom X.env.cells scope.names []).lookup y = some c := fun {y} hl => mem_lookup (cloFrom_has (cells := X.env.cells) (acc := []) (PySem.mem_of_lookup hl))
  have cell : ∀ {y c v}, X.env.cells.lookup y = some c → s.heap.IsCell c v → h₁.IsCell c v := fun {y c v} e z => by
    obtain ⟨⟨o, ho, q⟩, _⟩ := ck y c v e z
    exact ⟨o, kp _ _ ho, q⟩
  have noEx : ∀ b : Addr, b ∉ (lamCx X A outer s1 HZ E scope f c').ex := fun b z => absurd (show b ∈ ([] : List Addr) from z) (by simp)
  have okL : (lamCx X A outer s1 HZ E scope f c').Ok := by
    refine ⟨e0.mod, L.kind, rfl, rfl, Nat.le_refl _, ?_, ?_, ?_, ?_, ?_, .inr ⟨rfl, rfl⟩, ?_, e0.bs, e0.bsz, ?_, ?_, e0.funs, e0.frf⟩
    · exact fun y z c e1 e2 => I.ok.inj y z c (own e1) (own e2)
    · intro y hy
      have hy : scope.names.lookup y = some .cell ∨ scope.names.lookup y = some .free := hy
      exact hy.elim (fun k => absurd rfl (L.own _ (PySem.mem_of_lookup k)).2) got
    · intro y c z _
      exact absurd (show false = true from z) (by decide)
    · exact fun _ => hd
    · exact Around.frames_deeper e0.frames
    · exact fun b z => absurd z (noEx b)
    · exact fun b _ _ => noEx b
    · exact fun b z => absurd z (noEx b)
  refine ⟨okL, rfl, e0.bare, Un.kept kp, ⟨_, hns, ?_⟩, ?_, e0.hok.fresh (Nat.le_refl _), ?_, ?_, e0.hok.kept kp, I.len⟩
  · intro i y v e1 e2 e3
    have e3 : Vis scope y := e3
    have k : scope.names.lookup y = some .free := e3.elim (fun k => absurd rfl (L.own _ (PySem.mem_of_lookup k)).1) fun z => z.elim (fun k => absurd rfl (L.own _ (PySem.mem_of_lookup k)).2) id
    have up := L.free _ (PySem.mem_of_lookup k) rfl
    obtain ⟨m, hn, hl⟩ := I.loc
    obtain ⟨u, r, q⟩ := hl i y v e1 e2 (up.elim (fun k => .inr (.inl k)) fun k => .inr (.inr k))
    obtain ⟨c2, h2⟩ := got k
    refine ⟨u, r, .inr ⟨.inr k, c2, h2, ?_⟩⟩
    have hc2 := own h2
    rcases q with ⟨k', _⟩ | ⟨_, c3, e', z⟩
    · have k' : X.env.scope.names.lookup y = some .local := k'
      cases up with
      | inl k2 => exact absurd (k'.symm.trans k2) (by simp)
      | inr k2 => exact absurd (k'.symm.trans k2) (by simp)
    · obtain rfl : c2 = c3 := Option.some.inj (hc2.symm.trans e')
      exact cell hc2 z
  · intro y c e
    obtain ⟨v, z⟩ := I.cell y c (own e)
    exact ⟨v, cell (own e) z⟩
  · intro y c e
    obtain ⟨v, z⟩ := I.cell y c (own e)
    exact (ck y c v (own e) z).2
  · exact fun q hq => absurd (show q ∈ ([] : List (Addr × Obj)) ++ [] from hq) (by simp)
/-- x() in a def that got a kept lambda -/
theorem act_kept {CXg : CXT} {Eg : XK} {Ng : List Str} {qg : Str} {sg : Scope} {g f c' : Addr} {cdg : Value} {params : Arguments} {body : Expr} {scope : Scope} {k i : Nat} {a : Str} {pn : List (Addr × Obj)} {xe : Value → Shared → Prop} {W : WX} {E : XK} {tb : TE} {p1 p2 : Pos} {sg0 : Shared} {Hg : Hp}
    (I : Inv X pins σ H s) (L : LamS X.env.scope scope) (ck : CellsAs X s.heap Hg sg0.heap)
    (hbind : ∀ (q : Str) (cl : List (Str × Addr)) (pm cv ctv : Value), bindArgs (PySem.W.kla_fn "<lambda>" q params body scope cl pm cv ctv) ⟨[], []⟩ = pure [])
    (tk : Takes ((cxOf CXg X.prog X.w X.K X.mg X.base Ng qg sg g cdg X.A X.stack sg0 Hg Eg).tr pn xe) W) (hW : ∀ cls d σ' H', E cls d H' → W cls d σ' H') (hr : Room (k + 1) (X.A.deeper (envOfC qg sg sg0.heap.objs.size g cdg)))
    (hbody : ∀ (A : Around) (outer : List Env) (s : Shared) (H : Hp), Room k (A.deeper (lamEnv X scope s.heap.objs.size f c')) → PE (lamCx X A outer s H E scope f c') body tb)
    (hN : Ng[i]? = some a) (hv : Vis sg a) (hd : (a == ("__debug__" : Str)) = false := by decide) (hcd : (a == ("__classdict__" : Str)) = false := by decide) :
    PE ((cxOf CXg X.prog X.w X.K X.mg X.base Ng qg sg g cdg X.A X.stack sg0 Hg Eg).tr pn xe) (.Call (.Name a p1) [] [] p2)
      (fun σZ HZ Q => σZ[i]? = some (some (.ref f)) ∧ HZ c' = some (CodeO c' (X.env.qual ++ "<lambda>")) ∧ HZ f = some (LamO f (ldOf X params body scope c')) ∧ tb σ HZ Q) := by
  constructor
  rintro pinsZ sZ σZ HZ Q IZ ⟨slot, code, lam, want⟩
  apply wpAny_Call_Name_kw
  apply thn ((pe_var (pos := p1) (i := i) hN hv hd hcd).run pinsZ sZ σZ HZ (fun v H1 => v = .ref f ∧ H1 = HZ) IZ ⟨.ref f, slot, rfl, rfl⟩)
  rintro u s1 ⟨v, H1, I1, r1, rfl, rfl⟩
  obtain rfl : u = Value.ref f := r1
  obtain ⟨⟨pm, ctv, objf⟩, _, _⟩ := I1.hok f _ lam
  obtain ⟨⟨oc, vs, t, q1, q2, q3⟩, _, _⟩ := I1.hok c' _ code
  apply PySem.W.callWith_F0 ⟨_, _, _, _, objf⟩
  have ck1 : CellsAs X s.heap H1 s1.heap := ck.un (fs := frs X.stack) (ex := []) I1.base fun _ _ _ z => by cases z
  have rc : codeAny (model X.prog X.w) (X.A.deeper (envOfC qg sg sg0.heap.objs.size g cdg)) (.call (.ref f) ⟨[], []⟩) (CR (L2.CX X.prog X.w) (envOfC qg sg sg0.heap.objs.size g cdg :: X.stack) X.prog X.w H1 s1 Q E) s1 := by
    apply PySem.W.kla_callFunE hr.depth objf rfl L.co L.gen rfl ⟨c', oc, vs, t, rfl, q1, q2, q3⟩
    show wpAny _ _ (bindArgs (PySem.W.kla_fn "<lambda>" _ params body scope _ pm _ ctv) ⟨[], []⟩) _ _ _
    rw [hbind]
    apply wpAny_pure
    apply wpAny_newFunctionEnv (fun y hy => (L.own y hy).2) (fun y hy => absurd hy (by simp)) _ L.kind
    intro h₁ hns hsb
    refine ⟨I1.nolimit.fresh _ hsb, ?_⟩
    have kp : ∀ b o, s1.heap.get? b = some o → h₁.get? b = some o := fun b o e => hsb.extBut b o (Nat.ne_of_lt (Heap.lt_size e)) (Heap.get?_push_of_some _ e)
    have J := lam_enter (E := E) (f := f) (c' := c') (tk := s1.toks + ([] : List (Str × Value)).length) I L I1.env0 hr.hd ck1 hns kp
    apply PySem.W.kla_codeExpr
    apply wpAny_mono ((hbody _ _ s1 H1 (hr.deeper _)).run [] _ _ H1 Q J want) _ (fun e s' hq => hq)
    rintro v s' ⟨w', H', J', rv, q⟩
    exact ⟨w', H', J'.os, J'.bare, J'.base, J'.hok, rv, q⟩
  have hx : Passes (L2.CX X.prog X.w) ((cxOf CXg X.prog X.w X.K X.mg X.base Ng qg sg g cdg X.A X.stack sg0 Hg Eg).tr pn xe) E := passes_call tk hW
  apply wpAny_call (codeAny_mono rc _)
  intro r s' hq
  cases r with
  | error e => exact hx pinsZ σZ H1 s1 e s' I1 hq
  | ok fl =>
    cases fl with
    | ret u => exact I1.after hq
    | next => exact (show False from hq).elim
    | brk => exact (show False from hq).elim
    | cont => exact (show False from hq).elim
/-- the lambda is given to a def, in a block of the frame that made it -/
def tHeld (X : Cx) (TT : (XK → Hp → VK → Prop) → Hp → VK → Prop) (params : Arguments) (body : Expr) (scope : Scope) (t : XK → TE) (σ0 : L2.St) (te : TE) : TE := fun σ H Q =>
  tCons te tNil σ H fun vs H1 => ∃ f c', vs = [.ref f] ∧ H1 f = some (LamO f (ldOf X params body scope c')) ∧ H1 c' = some (CodeO c' (X.env.qual ++ "<lambda>")) ∧
    TT (fun E H' Q' => H' f = some (LamO f (ldOf X params body scope c')) ∧ t E σ0 H' Q') H1 Q
theorem pe_heldcall {TT : (XK → Hp → VK → Prop) → Hp → VK → Prop} {x a : Str} {g : Addr} {k : Nat} {pg : Arguments} {bg : List Stmt} {sg scopeB : Scope} {ce : Env} {fp : List Addr} {dV kV doc pm cdv ct oc : Value} {an od : Option Addr} {osl : Array (Option Value)} {Ng : List Str}
    {params : Arguments} {body e : Expr} {scope : Scope} {t : XK → TE} {te : TE} {p pos : Pos} (I0 : Inv X pins σ H s) (hfp : ∀ b ∈ fp, FpOk X pins H b) (hg : Gl (X.blk s H scopeB ce fp) x) (hm : X.mg x = some (.ref g)) (hk : PySem.W.keepIn X.K (.ref g) = true)
    (lk : X.K.lookup g = some ⟨oc, od, .func (PySem.W.fnOf x x pg bg sg dV kV doc pm an cdv ct), osl⟩) (hcg : PySem.W.codeIn X.K cdv x = true) (hb : L2.Binds X.K (PySem.W.fnOf x x pg bg sg dV kV doc pm an cdv ct) [a] []) (Sg : FnScope Ng [a] sg) (hNg : Ng[0]? = some a) (hva : Vis sg a)
    (hG : GivesTo X Ng x sg g cdv bg a (X.env.qual ++ "<lambda>") TT) (hr : Room (k + 2) X.A) (L : LamS X.env.scope scope) (he : PE (X.blk s H scopeB ce fp) e te)
    (h1 : starEach [e] (X.blk s H scopeB ce fp).env = (false, eval e (X.blk s H scopeB ce fp).env) :: starEach [] (X.blk s H scopeB ce fp).env) (h2 : (backTo pos (starEach [] (X.blk s H scopeB ce fp).env)).any (·.1) = false)
    (hbind : ∀ (q : Str) (cl : List (Str × Addr)) (pm cv ctv : Value), bindArgs (PySem.W.kla_fn "<lambda>" q params body scope cl pm cv ctv) ⟨[], []⟩ = pure [])
    (hbody : ∀ (A : Around) (outer : List Env) (s : Shared) (H : Hp) (E : XK) (f c' : Addr), Room k (A.deeper (lamEnv X scope s.heap.objs.size f c')) → PE (lamCx X A outer s H E scope f c') body (t E))
    (hdb : (x == ("__debug__" : Str)) = false := by decide) (hd : (a == ("__debug__" : Str)) = false := by decide) (hcd : (a == ("__classdict__" : Str)) = false := by decide) :
    PE (X.blk s H scopeB ce fp) (.Call (.Name x p) [e] [] pos) (tHeld X TT params body scope t σ te) := by
  constructor
  intro pinsB sB σB HB Q IB want
  apply wpAny_Call_Name_kw
  apply ld_glob IB hg hm _ hdb
  refine PySem.W.callWith_K (h₀ := X.base) IB.ok.mod.kin hk (thn ((pa_cons he pa_nil h1).run pos pinsB sB σB HB _ IB want) fun us s1 ⟨vs, H1, I1, r, f, c', ev, lam, code, w⟩ => ⟨I1.kIn, ?_⟩) h1 h2
  · subst ev
    cases r with
    | cons r1 r2 =>
      cases r2
      cases r1
      have ck : CellsAs X s.heap H1 s1.heap := (CellsAs.here I0).un (fs := (X.blk s H scopeB ce fp).fs) (ex := fp) I1.base fun y c e z => (hfp c z).2.2.2.2.1 y c e rfl
      have rc : codeAny (model X.prog X.w) X.A (.call (.ref g) ⟨[.ref f], []⟩) (CR C8.CX0 X.stack X.prog X.w H1 s1 Q C8.E0) s1 := by
        apply run_ofS (N := Ng) (ps := [a]) (us := [.ref f]) (vs := [.ref f]) lk hcg Sg hr I1.env0 (hb s1 [.ref f] I1.kIn rfl) (.cons rfl .nil) rfl
        intro hr'
        obtain ⟨t', ht', hq'⟩ := hG f c' s1 H1 Q (fun E H' Q' => H' f = some (LamO f (ldOf X params body scope c')) ∧ t E σ H' Q') (fun W pn xe E p1 p2 tk hW => act_kept (i := 0) I0 L ck hbind tk hW hr' (fun A outer s H hr2 => hbody A outer s H E f c' hr2) hNg hva hd hcd) code w
        exact ⟨t', ht'.nox, hq'⟩
      apply wpAny_call (codeAny_mono rc _)
      intro r s2 hq
      cases r with
      | error e => exact (show False from hq).elim
      | ok fl =>
        cases fl with
        | ret u => exact I1.after hq
        | next => exact (show False from hq).elim
        | brk => exact (show False from hq).elim
        | cont => exact (show False from hq).elim
theorem pe_or {e : Expr} {t1 t2 : TE} (h1 : PE X e t1) (h2 : PE X e t2) : PE X e (fun σ H Q => t1 σ H Q ∨ t2 σ H Q) :=
  ⟨fun pins s σ H Q I w => w.elim (h1.run pins s σ H Q I) (h2.run pins s σ H Q I)⟩
end
end HLam
-- part TSt
set_option maxHeartbeats 8000000
/-! The odd values of _law_refused_right, as they are laid. -/
namespace Kn
open PySem PySem.Spec PyProof.Rows L2 Err LamX HLam
/-- no dict of seats -/
def OddT (P : Program) (w : World) (G : Hp) (x : V) : Prop := (∃ u, Is G x u ∧ NF G x ∧ tuplesW u = false) ∨ ∃ a, x = .ref a ∧ TdAt P w G a
theorem NF.same {H H' : Hp} {v : V} {w : W} (i : Is H v w) (nf : NF H v) (s : Same H H') : NF H' v := by
  intro a o u e z
  subst e
  cases i with
  | lst _ h _ => rw [s _ _ h] at z; cases z
  | tup _ h _ =>
    rcases h with h | ⟨o2, h⟩
    · rw [s _ _ h] at z
      cases z
    · exact nf a o2 _ rfl h
  | dct _ h _ =>
    obtain ⟨ks, h, _⟩ := h
    rcases h with h | ⟨o2, h⟩
    · rw [s _ _ h] at z
      cases z
    · exact nf a o2 _ rfl h
theorem OddT.same {P : Program} {w : World} {G G' : Hp} {x : V} (h : OddT P w G x) (s : Same G G') : OddT P w G' x := by
  rcases h with ⟨u, i, nf, e⟩ | ⟨a, e, t⟩
  · exact .inl ⟨u, i.same s, nf.same i s, e⟩
  · exact .inr ⟨a, e, t.same s⟩
theorem nf_of {H : Hp} {a : Addr} {u : HO} (h : H a = some u) (n : ∀ o x, u ≠ .frz o x) : NF H (.ref a) := fun b o x e z => by
  cases e
  rw [h] at z
  exact n o x (Option.some.inj z)
/-- a new value, seen without the draws -/
theorem new_cut {d l c a : Addr} {H : Hp} {o : HO} (D : Drw H d l c) (n : H a = none) (nt : ∀ ps, o ≠ .tbl ps := by intro _ z; cases z) : cut d l (L2.upd H a o) a = some o := cut_at upd_same (D.off n).1 (D.off n).2 nt
theorem cut_new {d l a : Addr} {H : Hp} {o : HO} (n : H a = none) : Same (cut d l H) (cut d l (L2.upd H a o)) := (But.of (same_new n)).cut
theorem rep_one (x : V) : ∀ n : Nat, (List.replicate n [x]).flatten = List.replicate n x
  | 0 => rfl
  | n + 1 => by
    rw [List.replicate_succ, List.flatten_cons, rep_one x n, List.replicate_succ]
    rfl
/-- {k: x}, x a slot -/
theorem disp_var {σ : L2.St} {H : Hp} {Q : VK} {k : Key} {kv y : V} {j : Nat} (e : kv = kV k) (hj : σ[j]? = some (some y)) (q : ∀ p, H p = none → Q (.ref p) (L2.upd H p (.dK [(k, y)]))) : tDisp [(tC kv, tVar j)] σ H Q := fun p np => by
  subst e
  refine ⟨_, hj, upd_same, [(k, y)], rfl, by show 1 ≤ 15; decide, ?_⟩
  rw [upd_upd]
  exact q p np
theorem disp_con {σ : L2.St} {H : Hp} {Q : VK} {k : Key} {kv y : V} (e : kv = kV k) (q : ∀ p, H p = none → Q (.ref p) (L2.upd H p (.dK [(k, y)]))) : tDisp [(tC kv, tC y)] σ H Q := fun p np => by
  subst e
  refine ⟨upd_same, [(k, y)], rfl, by show 1 ≤ 15; decide, ?_⟩
  rw [upd_upd]
  exact q p np
/-- what has been laid so far -/
structure Ods (P : Program) (w : World) (d l c : Addr) (H0 H : Hp) (xs : List V) : Prop where
  D : Drw H d l c
  S : Same H0 H
  A : ∀ x ∈ xs, OddT P w (cut d l H) x
section
variable {P : Program} {w : World} {d l c : Addr} {H0 H : Hp} {xs : List V}
theorem Ods.grow {H' : Hp} (z : Ods P w d l c H0 H xs) (s : Same H H') : Ods P w d l c H0 H' xs := ⟨z.D.same s, z.S.trans s, fun x hx => (z.A x hx).same (But.of s).cut⟩
theorem Ods.val {x : V} (z : Ods P w d l c H0 H xs) (h : OddT P w (cut d l H) x) : Ods P w d l c H0 H (xs ++ [x]) := ⟨z.D, z.S, fun y hy => by
  rcases List.mem_append.mp hy with q | q
  · exact z.A y q
  · rw [List.mem_singleton.mp q]
    exact h⟩
theorem Ods.lay {a : Addr} {o : HO} (z : Ods P w d l c H0 H xs) (n : H a = none) (h : ∀ G, Same (cut d l H0) G → G a = some o → OddT P w G (.ref a)) (nt : ∀ ps, o ≠ .tbl ps := by intro _ z; cases z) : Ods P w d l c H0 (L2.upd H a o) (xs ++ [.ref a]) :=
  (z.grow (same_new n)).val (h _ (But.of (z.S.trans (same_new n))).cut (new_cut z.D n nt))
theorem Ods.layG {a : Addr} {o : HO} {H2 : Hp} (z : Ods P w d l c H0 H xs) (n : H a = none) (s : Same (L2.upd H a (.dK [])) H2)
    (h : ∀ G, Same (cut d l H0) G → (∀ b ob, L2.upd H a (.dK []) b = none → H2 b = some ob → (∀ ps, ob ≠ .tbl ps) → G b = some ob) → G a = some o → OddT P w G (.ref a)) (nt : ∀ ps, o ≠ .tbl ps := by intro _ z; cases z) : Ods P w d l c H0 (L2.upd H2 a o) (xs ++ [.ref a]) := by
  have s2 : Same H (L2.upd H2 a o) := same_own n ((same_new n).trans s)
  have off := z.D.off n
  refine (z.grow s2).val (h _ (But.of (z.S.trans s2)).cut (fun b ob nb eb nt2 => ?_) (cut_at upd_same off.1 off.2 nt))
  have nb2 : H b = none := HLam.upd_none nb
  have ne : b ≠ a := fun e => by
    rw [e, upd_same] at nb
    cases nb
  exact cut_at (by rw [upd_ne ne]; exact eb) (z.D.off nb2).1 (z.D.off nb2).2 nt2
/-- a dict of one pair -/
theorem odd_dict {G : Hp} {a : Addr} {k : Key} {v : V} {u : W} (e : G a = some (.dK [(k, v)])) (sm : kSm (some k)) (hv : Is G v u) (t : tuplesW (.dct [(some k, u)]) = false) : OddT P w G (.ref a) :=
  .inl ⟨_, .dct (kvs := [(some k, v)]) (by show 1 ≤ 900; decide) ⟨[(k, v)], .inl e, rfl⟩ (.cons sm hv .nil), nf_of e (fun _ _ z => by cases z), t⟩
end
theorem ones_all {H : Hp} : ∀ n : Nat, IsAll H (List.replicate n (.int 1)) (ones n)
  | 0 => .nil
  | n + 1 => by
    unfold ones
    rw [List.replicate_succ, List.replicate_succ]
    exact .cons (.int 1) (ones_all n)
theorem good_is {H : Hp} {g : Addr} {wd : Nat} (e : H g = some (.tup (List.replicate wd (.int 1)))) (h : wd ≤ 45) : Is H (.ref g) (.tup (ones wd)) := .tup (by rw [List.length_replicate]; omega) (.inl e) (ones_all wd)
theorem rep_all {H : Hp} {v : V} {u : W} (h : Is H v u) : ∀ n : Nat, IsAll H (List.replicate n v) (List.replicate n u)
  | 0 => .nil
  | n + 1 => by
    rw [List.replicate_succ, List.replicate_succ]
    exact .cons h (rep_all h n)
/-- good + (y,) -/
theorem cat_good {K : PySem.W.Frag} {σ : L2.St} {H : Hp} {Q : VK} {g : Addr} {wd : Nat} {y : V} (h3 : σ[3]? = some (some (.ref g))) (eg : H g = some (.tup (List.replicate wd (.int 1)))) (w45 : wd ≤ 45)
    (q : ∀ b H', Same H H' → H b = none → H' b = some (.tup (List.replicate wd (.int 1) ++ [y])) → Q (.ref b) H') : tOp (rCatA K) (tVar 3) (tTup (tCons (tC y) tNil)) σ H Q := by
  refine ⟨_, h3, by show 1 ≤ sizeLine; decide, fun t nt => ⟨g, t, _, [y], rfl, rfl, SqT.of (same_new nt _ _ eg), SqT.of upd_same, ?_, fun e => q _ _ (same_new nt) nt ?_, (fun _ z => by cases z), fun e _ p np => q _ _ ((same_new nt).trans (same_new np)) (HLam.upd_none np) upd_same⟩⟩
  · rw [List.length_replicate, sizeLine_eq]
    show wd + 1 ≤ _
    omega
  · rw [e]
    exact upd_same
/-- (True,) * wd + (True,) -/
theorem cat_true {K : PySem.W.Frag} {σ : L2.St} {H : Hp} {Q : VK} {wd : Nat} (h2 : σ[2]? = some (some (.int wd))) (w45 : wd ≤ 45)
    (q : ∀ b H', Same H H' → H b = none → H' b = some (.tup (List.replicate (wd + 1) (.bl true))) → Q (.ref b) H') : tOp (rCatA K) (tOp (rRepA K) (tTup (tCons (tC (.bl true)) tNil)) (tVar 2)) (tTup (tCons (tC (.bl true)) tNil)) σ H Q := by
  have second : ∀ (t : Addr) (G : Hp), Same H G → G t = some (.tup (List.replicate wd (.bl true))) → tTup (tCons (tC (.bl true)) tNil) σ G fun y G2 => rCatA K (.ref t) y G2 Q := fun t G s et => by
    refine ⟨by show 1 ≤ sizeLine; decide, fun t2 nt2 => ⟨t, t2, _, [.bl true], rfl, rfl, SqT.of (same_new nt2 _ _ et), SqT.of upd_same, ?_, fun e => q _ _ (s.trans (same_new nt2)) (s.free nt2) ?_, (fun _ z => by cases z), fun e _ p np => q _ _ (s.trans ((same_new nt2).trans (same_new np))) (s.free (HLam.upd_none np)) ?_⟩⟩
    · rw [List.length_replicate, sizeLine_eq]
      show wd + 1 ≤ _
      omega
    · have z : wd = 0 := by
        have y := congrArg List.length e
        rw [List.length_replicate] at y
        exact y
      rw [z]
      exact upd_same
    · rw [List.replicate_succ']
      exact upd_same
  refine ⟨by show 1 ≤ sizeLine; decide, fun t nt => ⟨_, h2, t, wd, [.bl true], rfl, rfl, SqT.of upd_same, by simp, by omega, by omega, by decide, fun e1 => second t _ (same_new nt) ?_, fun _ p np => second p _ ((same_new nt).trans (same_new np)) ?_⟩⟩
  · obtain rfl : wd = 1 := by omega
    exact upd_same
  · rw [Int.toNat_natCast, rep_one]
    exact upd_same
/-- (0,) * 46 -/
theorem rep_46 {K : PySem.W.Frag} {σ : L2.St} {H : Hp} {Q : VK} (q : ∀ b H', Same H H' → H b = none → H' b = some (.tup (List.replicate 46 (.int 0))) → Q (.ref b) H') : tOp (rRepA K) (tTup (tCons (tC (.int 0)) tNil)) (tC (.int 46)) σ H Q := by
  refine ⟨by show 1 ≤ sizeLine; decide, fun t nt => ⟨t, 46, [.int 0], rfl, rfl, SqT.of upd_same, by simp, by omega, by omega, by decide, (fun e => absurd e (by decide)), fun _ p np => q _ _ ((same_new nt).trans (same_new np)) (HLam.upd_none np) ?_⟩⟩
  have e : (46 : Int).toNat = 46 := rfl
  rw [e, rep_one]
  exact upd_same
/-- {k: x}, x computed -/
theorem disp_te {σ : L2.St} {H : Hp} {Q : VK} {k : Key} {kv : V} {te : TE} (e : kv = kV k) (q : ∀ p, H p = none → te σ (L2.upd H p (.dK [])) fun y H2 => H2 p = some (.dK []) ∧ Q (.ref p) (L2.upd H2 p (.dK [(k, y)]))) (mono : ∀ (G : Hp) (A B : VK), (∀ y G', A y G' → B y G') → te σ G A → te σ G B) : tDisp [(tC kv, te)] σ H Q := fun p np => by
  subst e
  exact mono _ _ _ (fun y G' ⟨e1, z⟩ => ⟨e1, [(k, y)], rfl, by show 1 ≤ 15; decide, z⟩) (q p np)
theorem gives_part {G : Hp} {b : Addr} {wd : Nat} {y : V} {u : W} (e : G b = some (.tup (List.replicate wd (.int 1) ++ [y]))) (hy : Is G y u) (w45 : wd ≤ 45) : Is G (.ref b) (.tup (ones wd ++ [u])) := by
  refine .tup ?_ (.inl e) ((ones_all wd).app (.cons hy .nil))
  rw [List.length_append, List.length_replicate]
  show wd + 1 ≤ 900
  omega
theorem pr_keep {G G' : Hp} {ps : List Addr} {kvs : List (Key × V)} (pr : Paired (fun (p : Addr) (kv : Key × V) => G p = some (.tup [kV kv.1, kv.2])) ps kvs) (k : ∀ p xs, G p = some (.tup xs) → G' p = some (.tup xs)) : Paired (fun (p : Addr) (kv : Key × V) => G' p = some (.tup [kV kv.1, kv.2])) ps kvs := by
  induction pr with
  | nil => exact .nil
  | cons h _ ih => exact .cons (k _ _ h) ih
theorem pr_snoc {G : Hp} {ps : List Addr} {kvs : List (Key × V)} {p : Addr} {kv : Key × V} (pr : Paired (fun (p : Addr) (kv : Key × V) => G p = some (.tup [kV kv.1, kv.2])) ps kvs) (h : G p = some (.tup [kV kv.1, kv.2])) : Paired (fun (p : Addr) (kv : Key × V) => G p = some (.tup [kV kv.1, kv.2])) (ps ++ [p]) (kvs ++ [kv]) := by
  induction pr with
  | nil => exact .cons h .nil
  | cons h0 _ ih => exact .cons h0 ih
theorem pr_sq {K : PySem.W.Frag} {G : Hp} {ps : List Addr} {kvs : List (Key × V)} (pr : Paired (fun (p : Addr) (kv : Key × V) => G p = some (.tup [kV kv.1, kv.2])) ps kvs) : Paired (fun (p : Addr) (kv : Key × V) => SqT K G p [kV kv.1, kv.2]) ps kvs := by
  induction pr with
  | nil => exact .nil
  | cons h _ ih => exact .cons (SqT.of h) ih
/-- what has been laid so far, of any kind -/
structure OdB (B : Hp → V → Prop) (d l c : Addr) (H0 H : Hp) (xs : List V) : Prop where
  D : Drw H d l c
  S : Same H0 H
  A : ∀ x ∈ xs, B (cut d l H) x
  M : ∀ G G' x, B G x → Same G G' → B G' x
section
variable {B : Hp → V → Prop} {d l c : Addr} {H0 H : Hp} {xs : List V}
theorem OdB.grow {H' : Hp} (z : OdB B d l c H0 H xs) (s : Same H H') : OdB B d l c H0 H' xs := ⟨z.D.same s, z.S.trans s, fun x hx => z.M _ _ _ (z.A x hx) (But.of s).cut, z.M⟩
theorem OdB.val {x : V} (z : OdB B d l c H0 H xs) (h : B (cut d l H) x) : OdB B d l c H0 H (xs ++ [x]) := ⟨z.D, z.S, fun y hy => by
  rcases List.mem_append.mp hy with q | q
  · exact z.A y q
  · rw [List.mem_singleton.mp q]
    exact h, z.M⟩
theorem OdB.con {x : V} (z : OdB B d l c H0 H xs) (h : ∀ G, B G x) : OdB B d l c H0 H (xs ++ [x]) := z.val (h _)
theorem OdB.layF {x : V} {H2 : Hp} (z : OdB B d l c H0 H xs) (s : Same H H2) (h : ∀ G, Same (cut d l H0) G → (∀ b ob, H b = none → H2 b = some ob → (∀ ps, ob ≠ .tbl ps) → G b = some ob) → B G x) : OdB B d l c H0 H2 (xs ++ [x]) :=
  (z.grow s).val (h _ (But.of (z.S.trans s)).cut fun b ob nb eb nt => cut_at eb (z.D.off nb).1 (z.D.off nb).2 nt)
theorem OdB.nil (D : Drw H d l c) (M : ∀ G G' x, B G x → Same G G' → B G' x) : OdB B d l c H H [] := ⟨D, Same.refl _, (fun x hx => by cases hx), M⟩
end
/-- no checks -/
def BadK (G : Hp) (x : V) : Prop := ∃ u, Is G x u ∧ checksW u = false
/-- no part beside rows of ones -/
def BadP (wd : Nat) (G : Hp) (x : V) : Prop := ∃ u, Is G x u ∧ nnW u = true ∧ (tupNW u && wideW [.tup (ones wd), u]) = false
def BadS (G : Hp) (x : V) : Prop := ∃ u, Is G x u ∧ withinW 1 9 u = false
theorem BadK.same (G G' : Hp) (x : V) (h : BadK G x) (s : Same G G') : BadK G' x := h.imp fun _ z => ⟨z.1.same s, z.2⟩
theorem BadP.same (wd : Nat) (G G' : Hp) (x : V) (h : BadP wd G x) (s : Same G G') : BadP wd G' x := h.imp fun _ z => ⟨z.1.same s, z.2⟩
theorem BadS.same (G G' : Hp) (x : V) (h : BadS G x) (s : Same G G') : BadS G' x := h.imp fun _ z => ⟨z.1.same s, z.2⟩
theorem wide_more {a b : List W} (h : a.length ≠ b.length) : wideW [.tup a, .tup b] = false := by
  show (decide (a.length = a.length) && (decide (b.length = a.length) && true)) = false
  rw [decide_eq_false (p := b.length = a.length) (fun z => h z.symm), Bool.false_and, Bool.and_false]
theorem ones_more (wd : Nat) (x : W) : (ones wd).length ≠ (ones wd ++ [x]).length := by
  rw [List.length_append]
  show (ones wd).length ≠ (ones wd).length + 1
  omega
end Kn
-- part TRefP
set_option maxHeartbeats 8000000
/-! _law_refused_right: its places between the parts. -/
namespace Kn
open PySem PySem.Spec PyProof.Rows L2 Err LamX HLam
abbrev sRef : Stmt := topS 44
abbrev NRef : List Str := ["_law_draw", "_law_tuples_here", "_law_width", "_law_good", "_law_odd", "_law_wrong", "_law_count", "_law_seat", "_law_checks_here", "_law_part"]
theorem scRef : FnScope NRef ["_law_draw", "_law_tuples_here", "_law_width"] (defScope sRef) := ⟨rfl, rfl, rfl, by decide +kernel, rfl, by decide +kernel, by decide +kernel⟩
def spRef (T : List (Addr × Str)) : Sp := fun vs H Q _ => ∃ d l c a L, ∃ wd : Nat, vs = [.ref d, .ref a, .int wd] ∧ Drw H d l c ∧ Tabs T H ∧ TupD (cut d l H) a L ∧ TOk L wd ∧ L.length ≤ 8 ∧ ∀ H', Drw H' d l c → Tabs T H' → ButN d l H H' → Q (.bl true) H'
abbrev XR (P : Program) (w : World) (K : PySem.W.Frag) (mg : Str → Option Value) (base : Heap) (f c0 : Addr) (A : Around) (outer : List Env) (s : Shared) (H : Hp) (E : XK) : Cx := (cxOf CX0 P w K mg base NRef "_law_refused_right" (defScope sRef) f (.ref c0) A outer s H E).nox
abbrev refTail (n : Nat) : List Stmt := (defBody sRef).drop n
/-- where the rest begins: draws, lambdas' table, what is good -/
def PCr (T : List (Addr × Str)) : TS := fun D σ H => ∃ d l c a g, ∃ wd : Nat, ∃ y4 y5 y6 y7 y8 y9, σ = [some (.ref d), some (.ref a), some (.int wd), some (.ref g), y4, y5, y6, y7, y8, y9] ∧ Drw H d l c ∧ Tabs T H ∧ wd ≤ 45 ∧ cut d l H g = some (.tup (List.replicate wd (.int 1))) ∧
  ∀ H', Drw H' d l c → Tabs T H' → ButN d l H H' → D.rt (.bl true) H'
/-- where the picks begin: the odd values too -/
def PBr (P : Program) (w : World) (T : List (Addr × Str)) : TS := fun D σ H => ∃ d l c a g L l3 xs, ∃ wd : Nat, ∃ y5 y6 y7 y8 y9, σ = [some (.ref d), some (.ref a), some (.int wd), some (.ref g), some (.ref l3), y5, y6, y7, y8, y9] ∧ Drw H d l c ∧ Tabs T H ∧ cut d l H g = some (.tup (List.replicate wd (.int 1))) ∧
  TupD (cut d l H) a L ∧ TOk L wd ∧ L.length ≤ 8 ∧ H l3 = some (.lst xs) ∧ l3 ≠ l ∧ 0 < xs.length ∧ xs.length ≤ 1000 ∧ (∀ x ∈ xs, OddT P w (cut d l H) x) ∧ ∀ H', Drw H' d l c → Tabs T H' → ButN d l H H' → D.rt (.bl true) H'
end Kn
-- part TWs
set_option maxHeartbeats 8000000
/-! The word of a caught error. -/
namespace Kn
open PySem PySem.Spec PyProof.Rows L2 Err LamX HLam
section
variable {K : PySem.W.Frag} {T : List (Addr × Str)} {CS CT CC CK CE C : Addr} {σ : L2.St} {H : Hp} {d l c : Addr} {tl : XK → TE} {i : Nat} {x : Str}
theorem word_of {Q : VK} (D : Drw H d l c) (hT : Tabs T H) (ix : [CT, CC, CK, CE][i]? = some C) (wx : words[i]? = some x) (ex : PySem.W.exmOne K (.ref C) (.ref CS) = some true)
    (call : ∀ G1, Drw G1 d l c → Tabs T G1 → ButN d l H G1 → ∀ (E : XK) (Q' : VK), (∀ H', Drw H' d l c → Tabs T H' → ButN d l G1 H' → E (.ref C) none H') → tl E σ G1 Q')
    (k : ∀ H', Drw H' d l c → Tabs T H' → ButN d l H H' → Q (.str x) H') : tCall (spWord CT CC CK CE) [] E0 (tCons (tLam T (TCaught K CS) tl) tNil) σ H Q := by
  refine ⟨hT, fun G1 eN T1 => call G1 (D.extN eN) T1 (.ext eN) _ _ fun H' D' T' B' => ⟨ex, fun a na => ?_⟩⟩
  have s := same_new (o := exq a (.ref C) none) na
  exact ⟨a, C, i, x, rfl, upd_same, ix, wx, fun H2 s2 => k H2 (D'.same (s.trans s2)) (T'.ext (s.trans s2)) (((ButN.ext eN).trans B').trans (But.of (s.trans s2)).n)⟩
theorem word_step {Dn : Ends} {tr : TS} (D : Drw H d l c) (hT : Tabs T H) (ix : [CT, CC, CK, CE][i]? = some C) (wx : words[i]? = some x) (ex : PySem.W.exmOne K (.ref C) (.ref CS) = some true)
    (call : ∀ G1, Drw G1 d l c → Tabs T G1 → ButN d l H G1 → ∀ (E : XK) (Q' : VK), (∀ H', Drw H' d l c → Tabs T H' → ButN d l G1 H' → E (.ref C) none H') → tl E σ G1 Q')
    (k : ∀ H', Drw H' d l c → Tabs T H' → ButN d l H H' → Dn.nx σ H') : tIfS (tTest (tOp rNe (tCall (spWord CT CC CK CE) [] E0 (tCons (tLam T (TCaught K CS) tl) tNil)) (tC (.str x)))) tr tNext Dn σ H := by
  refine word_of D hT ix wx ex call fun H' D' T' B' => ⟨rfl, false, ?_, iteF (k H' D' T' B')⟩
  show V.bl (!decide _) = _
  rw [decide_eq_true rfl]
  rfl
theorem word_ret {Q : VK} (D : Drw H d l c) (hT : Tabs T H) (ix : [CT, CC, CK, CE][i]? = some C) (wx : words[i]? = some x) (ex : PySem.W.exmOne K (.ref C) (.ref CS) = some true)
    (call : ∀ G1, Drw G1 d l c → Tabs T G1 → ButN d l H G1 → ∀ (E : XK) (Q' : VK), (∀ H', Drw H' d l c → Tabs T H' → ButN d l G1 H' → E (.ref C) none H') → tl E σ G1 Q')
    (k : ∀ H', Drw H' d l c → Tabs T H' → ButN d l H H' → Q (.bl true) H') : tOp rEq (tCall (spWord CT CC CK CE) [] E0 (tCons (tLam T (TCaught K CS) tl) tNil)) (tC (.str x)) σ H Q := by
  refine word_of D hT ix wx ex call fun H' D' T' B' => ⟨rfl, ?_⟩
  have e : decide (V.str x = V.str x) = true := decide_eq_true rfl
  have z := k H' D' T' B'
  rw [← e] at z
  exact z
end
end Kn
-- part TRefB
set_option maxHeartbeats 8000000
/-! _law_refused_right: the picks. -/
namespace Kn
open PySem PySem.Spec PyProof.Rows L2 Err LamX HLam
section
variable {P : Program} {w : World} {K : PySem.W.Frag} {mg : Str → Option Value} {base : Heap} {A : Around} {outer : List Env} {s0 : Shared} {H00 : Hp} {E00 : XK}
theorem ref_b {T : List (Addr × Str)} {Pt c0 f fP fW fO fA fC CS CT CC CK CE : Addr} {fdP fdW fdO fdA fdC : FuncData} (TB : TabB base mg c0 Pt) (hT1 : (Pt, ("_law_refused_right.<locals>." : Str) ++ "<lambda>") ∈ T) (hT2 : ∀ p ∈ T, p.1 = Pt → p.2 = ("_law_refused_right.<locals>." : Str) ++ "<lambda>")
    (X : Four K mg CS CT CC CK CE) (gS : mg "StillError" = some (.ref CS))
    (GP : FnOk P w K mg base CX0 3 fP fdP ["_law_draw", "_law_some"] spPick) (kP : PySem.W.keepIn K (.ref fP) = true) (bP : Binds K fdP ["_law_draw", "_law_some"] []) (gP : mg "_law_pick" = some (.ref fP))
    (GW : FnOk P w K mg base CX0 1 fW fdW ["_law_error"] (spWord CT CC CK CE)) (kW : PySem.W.keepIn K (.ref fW) = true) (bW : Binds K fdW ["_law_error"] []) (gW : mg "_law_word" = some (.ref fW))
    (GO : FnOk P w K mg base (L2.CX P w) 7 fO fdO ["tuples", "count"] (spOr (spOf CT CC) (spOf2 P w CT))) (kO : PySem.W.keepIn K (.ref fO) = true) (bO : Binds K fdO ["tuples", "count"] []) (gO : mg "checks_of" = some (.ref fO))
    (GA : FnOk P w K mg base (L2.CX P w) 5 fA fdA ["checks", "seat", "before", "later"] (spAfter CK CE CT)) (kA : PySem.W.keepIn K (.ref fA) = true) (bA : Binds K fdA ["checks", "seat", "before", "later"] []) (gA : mg "after_change" = some (.ref fA))
    (FC : Fun K "_law_caught" "_law_caught" sCaught fC fdC) (bC : Binds K fdC ["_law_work"] []) (gC : mg "_law_caught" = some (.ref fC))
    (mt : mg "tuple" = none) (ml : mg "list" = none) (md : mg "dict" = none) (mr : mg "range" = none) (hr : Room 10 (XR P w K mg base f c0 A outer s0 H00 E00).A) (tok : PSs (XR P w K mg base f c0 A outer s0 H00 E00) (refTail 7) (PCr T)) : PSs (XR P w K mg base f c0 A outer s0 H00 E00) (refTail 4) (PBr P w T) := by
  have S := scRef
  obtain ⟨ocC, odC, kVC, docC, pmC, anC, cdC, ctC, oslC, rfl, lkC, hcC⟩ := FC.ex
  have hu := hu_of hr
  have hr3 := hr.mono (show 3 ≤ 10 by decide)
  have hr1 := hr.mono (show 1 ≤ 10 by decide)
  refine PSs.pre (PBr P w T) (pss_cons (ps_asg (pe_tup (pa_cons (pe_call GP hr3 (by rfl) gP kP bP .nil pass0 (pa_cons (pv 0) (pa_cons (pv 4) pa_nil))) (pa_cons (pe_call GP hr3 (by rfl) gP kP bP .nil pass0 (pa_cons (pv 0) (pa_cons (pe_lst (pa_cons (pe_un un_neg pe_int) (pa_cons pe_int (pa_cons pe_bl (pa_cons pe_non (pa_cons pe_str (pa_cons (pe_lst (pa_cons pe_int pa_nil)) (pa_cons (pe_op op_pow pe_int pe_int) pa_nil)))))))) pa_nil))) pa_nil))) (pg_tup rfl (pgs_cons (pg_name (i := 5) S.nd rfl (.inr rfl)) (pgs_cons (pg_name (i := 6) S.nd rfl (.inr rfl)) pgs_nil))))
      (pss_cons (ps_if (pt_cmpR op_ne (pe_call GW hr1 (by rfl) gW kW bW .nil pass0 (pa_cons (pe_lamcall (T := T) (TT := TCaught K CS) (k := 8) (by rfl) gC FC.kp lkC hcC bC scCa rfl (.inl rfl) (caught_gives gS) TB rfl hT1 hT2 hr (lamS_by (by show lamSB (defScope sRef) _ = true; decide +kernel)) (by rfl) (fun _ _ _ _ _ => rfl) (fun A outer s H E f c' hrL => pe_call GO (hrL.mono (by decide)) (by rfl) gO kO bO .nil (passes_call (takes_of rfl rfl rfl rfl) fun _ _ _ _ h => h) (pa_cons (pv 5) (pa_cons (pe_call GP (hrL.mono (by decide)) (by rfl) gP kP bP .nil pass0 (pa_cons (pv 0) (pa_cons (pe_lst (pa_cons pe_int (pa_cons (pv 6) pa_nil))) pa_nil))) pa_nil)))) pa_nil)) pe_str (nomark _)) (pss_one (ps_ret pe_bl)) pss_nil)
      (pss_cons (ps_if (pt_cmpR op_ne (pe_call GW hr1 (by rfl) gW kW bW .nil pass0 (pa_cons (pe_lamcall (T := T) (TT := TCaught K CS) (k := 8) (by rfl) gC FC.kp lkC hcC bC scCa rfl (.inl rfl) (caught_gives gS) TB rfl hT1 hT2 hr (lamS_by (by show lamSB (defScope sRef) _ = true; decide +kernel)) (by rfl) (fun _ _ _ _ _ => rfl) (fun A outer s H E f c' hrL => pe_call GO (hrL.mono (by decide)) (by rfl) gO kO bO .nil (passes_call (takes_of rfl rfl rfl rfl) fun _ _ _ _ h => h) (pa_cons (pv 1) (pa_cons (pv 6) pa_nil)))) pa_nil)) pe_str (nomark _)) (pss_one (ps_ret pe_bl)) pss_nil)
      tok))) ?_
  rintro D0 σ H ⟨d, l, c, a, g, L, l3, xs, wd, y5, y6, y7, y8, y9, rfl, D, hT, cg, hL, ok, l8, e3, n3l, x0, x9, od, q⟩
  have w45 := ok.w45
  refine ⟨_, rfl, _, rfl, d, l, c, l3, xs, rfl, D, e3, n3l, x0, x9, fun k x H1 hk D1 B1 => ?_⟩
  have ox : OddT P w (cut d l H1) x := (od x (List.mem_of_getElem? hk)).same B1.cut
  have T1 := tabs_but hT D B1
  have hL1 := hL.same B1.cut
  have c1 := B1.cut _ _ cg
  refine ⟨_, rfl, ⟨_, rfl, by show 1 ≤ sizeLine; decide, fun o1 m1 => ⟨_, _, rfl, rfl, ⟨by decide, by decide, by decide⟩, by show 7 ≤ sizeLine; decide, fun e ne => ?_⟩⟩⟩
  have s2 : Same H1 (L2.upd H1 o1 (.lst [.int 1])) := same_new m1
  have eo : (L2.upd H1 o1 (.lst [.int 1])) o1 = some (.lst [.int 1]) := upd_same
  generalize L2.upd H1 o1 (.lst [.int 1]) = H2 at s2 eo ne ⊢
  refine pick_new (D1.same s2) (by show 0 < 7; decide) (by show 7 ≤ 1000; decide) (fun y H3 hy D3 B3 => ?_) ne
  have B13 : But d l H1 H3 := (But.of s2).trans B3
  have oy : ∃ u, Is (cut d l H3) y u ∧ withinW 0 4 u = false := by
    simp only [List.mem_cons, List.not_mem_nil, or_false] at hy
    have off := D1.off m1
    rcases hy with z | z | z | z | z | z | z
    · rw [z]; exact ⟨_, .int _, by decide⟩
    · rw [z]; exact ⟨_, .int _, by decide⟩
    · rw [z]; exact ⟨_, .bl _, rfl⟩
    · rw [z]; exact ⟨_, .non, rfl⟩
    · rw [z]; exact ⟨_, .str _ (by decide) (by decide +kernel), rfl⟩
    · rw [z]; exact ⟨_, .lst (by decide) (cut_at (B3 _ _ eo off.1 off.2) off.1 off.2) (.cons (.int 1) .nil), rfl⟩
    · rw [z]; exact ⟨_, .int _, by decide⟩
  refine ⟨by show 2 ≤ sizeLine; decide, fun tp ntp => ⟨tp, [x, y], rfl, SqT.of upd_same, rfl, x, [y], rfl, y, [], rfl, rfl, ?_⟩⟩
  have s4 : Same H3 (L2.upd H3 tp (.tup [x, y])) := same_new ntp
  generalize L2.upd H3 tp (.tup [x, y]) = H4 at s4 ⊢
  have B14 : But d l H1 H4 := B13.trans (But.of s4)
  have D4 := D3.same s4
  have T4 := tabs_but T1 D1 B14
  have ox4 := ox.same B14.cut
  obtain ⟨u, iy, wy⟩ := oy
  have iy4 := iy.same (But.of s4).cut
  have hL4 := hL1.same B14.cut
  have c4 := B14.cut _ _ c1
  have BN4 : ButN d l H H4 := (B1.trans B14).n
  clear B13 B14 s4 s2 eo ne m1 ntp hy iy ox c1 hL1
  -- no tuples
  refine word_step (i := 0) (C := CT) (c := c) D4 T4 rfl rfl X.t.xm (fun G1 D5 T5 B5 E Q' hE => ?_) fun H5 D5 T5 B5 => ?_
  · refine ⟨_, rfl, _, rfl, _, rfl, by show 2 ≤ sizeLine; decide, fun e ne => pick_new D5 (by show 0 < 2; decide) (by show 2 ≤ 1000; decide) (fun v H6 hv D6 B6 => ?_) ne⟩
    have T6 := tabs_but T5 D5 B6
    have BN6 : ButN d l G1 H6 := B6.n
    have iv : ∃ u, Is (cut d l H6) v u := by
      simp only [List.mem_cons, List.not_mem_nil, or_false] at hv
      rcases hv with z | z
      · rw [z]; exact ⟨_, .int 1⟩
      · rw [z]; exact ⟨_, iy4.same (B5.trans BN6).cut⟩
    obtain ⟨u2, iv⟩ := iv
    have ox6 := (ox4.same (B5.trans BN6).cut).same cut_le
    have fin : ∀ H', Same H6 H' → E (.ref CT) none H' := fun H' s => hE H' (D6.same s) (T6.ext s) (BN6.trans (But.of s).n)
    rcases ox6 with ⟨u1, i1, nf1, w1⟩ | ⟨ad, e1, t1⟩
    · exact .inl ⟨x, v, u1, u2, rfl, i1, nf1, iv.same cut_le, .inl ⟨w1, fin⟩⟩
    · rw [e1]
      exact .inr ⟨ad, v, rfl, t1, fin⟩
  -- no count
  refine word_step (i := 1) (C := CC) (c := c) D5 T5 rfl rfl X.c.xm (fun G1 D6 T6 B6 E Q' hE => ?_) fun H6 D6 T6 B6 => ?_
  · have t6 := (hL4.same (B5.trans B6).cut).same cut_le
    obtain ⟨ks, ek, hk2⟩ := id t6
    refine ⟨_, rfl, _, rfl, .inl ⟨.ref a, y, tupsWd L, u, rfl, tups_is t6 ok, nf_of ek (fun _ _ z => by cases z), (iy4.same (B5.trans B6).cut).same cut_le, .inr (.inl ⟨tups_good ok l8, wy, fun H' s => hE H' (D6.same s) (T6.ext s) (But.of s).n⟩)⟩⟩
  have BN6 := B5.trans B6
  exact ⟨d, l, c, a, g, wd, _, _, _, _, _, _, rfl, D6, T6, w45, BN6.cut _ _ c4, fun H' D' T' B' => q H' D' T' ((BN4.trans BN6).trans B')⟩
end
end Kn
-- part TRefC
set_option maxHeartbeats 8000000
/-! _law_refused_right: the changes. -/
namespace Kn
open PySem PySem.Spec PyProof.Rows L2 Err LamX HLam
section
variable {P : Program} {w : World} {K : PySem.W.Frag} {mg : Str → Option Value} {base : Heap} {A : Around} {outer : List Env} {s0 : Shared} {H00 : Hp} {E00 : XK}
theorem ref_c {T : List (Addr × Str)} {Pt c0 f fP fW fO fA fC CS CT CC CK CE : Addr} {fdP fdW fdO fdA fdC : FuncData} (TB : TabB base mg c0 Pt) (hT1 : (Pt, ("_law_refused_right.<locals>." : Str) ++ "<lambda>") ∈ T) (hT2 : ∀ p ∈ T, p.1 = Pt → p.2 = ("_law_refused_right.<locals>." : Str) ++ "<lambda>")
    (X : Four K mg CS CT CC CK CE) (gS : mg "StillError" = some (.ref CS))
    (GP : FnOk P w K mg base CX0 3 fP fdP ["_law_draw", "_law_some"] spPick) (kP : PySem.W.keepIn K (.ref fP) = true) (bP : Binds K fdP ["_law_draw", "_law_some"] []) (gP : mg "_law_pick" = some (.ref fP))
    (GW : FnOk P w K mg base CX0 1 fW fdW ["_law_error"] (spWord CT CC CK CE)) (kW : PySem.W.keepIn K (.ref fW) = true) (bW : Binds K fdW ["_law_error"] []) (gW : mg "_law_word" = some (.ref fW))
    (GO : FnOk P w K mg base (L2.CX P w) 7 fO fdO ["tuples", "count"] (spOr (spOf CT CC) (spOf2 P w CT))) (kO : PySem.W.keepIn K (.ref fO) = true) (bO : Binds K fdO ["tuples", "count"] []) (gO : mg "checks_of" = some (.ref fO))
    (GA : FnOk P w K mg base (L2.CX P w) 5 fA fdA ["checks", "seat", "before", "later"] (spAfter CK CE CT)) (kA : PySem.W.keepIn K (.ref fA) = true) (bA : Binds K fdA ["checks", "seat", "before", "later"] []) (gA : mg "after_change" = some (.ref fA))
    (FC : Fun K "_law_caught" "_law_caught" sCaught fC fdC) (bC : Binds K fdC ["_law_work"] []) (gC : mg "_law_caught" = some (.ref fC))
    (mt : mg "tuple" = none) (ml : mg "list" = none) (md : mg "dict" = none) (mr : mg "range" = none) (hr : Room 10 (XR P w K mg base f c0 A outer s0 H00 E00).A) : PSs (XR P w K mg base f c0 A outer s0 H00 E00) (refTail 7) (PCr T) := by
  have S := scRef
  obtain ⟨ocC, odC, kVC, docC, pmC, anC, cdC, ctC, oslC, rfl, lkC, hcC⟩ := FC.ex
  have hu := hu_of hr
  have hr3 := hr.mono (show 3 ≤ 10 by decide)
  have hr1 := hr.mono (show 1 ≤ 10 by decide)
  refine PSs.pre (PCr T) (pss_cons (ps_set (i := 7) S.nd rfl (.inr rfl) (pe_call GP hr3 (by rfl) gP kP bP .nil pass0 (pa_cons (pv 0) (pa_cons (pe_lst (pa_cons pe_int (pa_cons pe_int (pa_cons (pe_un un_neg pe_int) (pa_cons pe_bl (pa_cons pe_non (pa_cons pe_str (pa_cons (pe_tup (pa_cons pe_int pa_nil)) pa_nil)))))))) pa_nil))))
      (pss_cons (ps_set (i := 5) S.nd rfl (.inr rfl) (pe_lst (pa_cons pe_non (pa_cons pe_int (pa_cons pe_dnewK (pa_cons (pe_op (show OpR _ (binaryOp .Mult) rRep from op_rep) (pe_lst (pa_cons (pv 3) pa_nil)) pe_int) (pa_cons (pe_lst (pa_cons (pe_callTy (show CallR _ (.type "list") (rLstA K) from call_list_of) (by rfl) ml (by decide +kernel) (pa_cons (pv 3) pa_nil)) pa_nil)) (pa_cons (pe_lst (pa_cons pe_non pa_nil)) (pa_cons (pe_lst (pa_cons (pv 3) (pa_cons (pe_op (show OpR _ (binaryOp .Add) (rCatA K) from op_catA) (pv 3) (pe_tup (pa_cons pe_int pa_nil))) pa_nil))) (pa_cons (pe_lst (pa_cons (pe_op (show OpR _ (binaryOp .Add) (rCatA K) from op_catA) (pv 3) (pe_tup (pa_cons pe_bl pa_nil))) pa_nil)) pa_nil))))))))))
      (pss_cons (ps_set (i := 8) S.nd rfl (.inr rfl) (pe_call GP hr3 (by rfl) gP kP bP .nil pass0 (pa_cons (pv 0) (pa_cons (pv 5) pa_nil))))
      (pss_cons (ps_set (i := 9) S.nd rfl (.inr rfl) (pe_call GP hr3 (by rfl) gP kP bP .nil pass0 (pa_cons (pv 0) (pa_cons (pe_lst (pa_cons pe_int (pa_cons (pe_callTy (show CallR _ (.type "list") (rLstA K) from call_list_of) (by rfl) ml (by decide +kernel) (pa_cons (pv 3) pa_nil)) (pa_cons (pe_op (show OpR _ (binaryOp .Add) (rCatA K) from op_catA) (pv 3) (pe_tup (pa_cons pe_int pa_nil))) (pa_cons (pe_op (show OpR _ (binaryOp .Add) (rCatA K) from op_catA) (pv 3) (pe_tup (pa_cons pe_non pa_nil))) (pa_cons pe_str (pa_cons pe_dnewK pa_nil))))))) pa_nil))))
      (pss_cons (ps_if (pt_cmpR op_ne (pe_call GW hr1 (by rfl) gW kW bW .nil pass0 (pa_cons (pe_lamcall (T := T) (TT := TCaught K CS) (k := 8) (by rfl) gC FC.kp lkC hcC bC scCa rfl (.inl rfl) (caught_gives gS) TB rfl hT1 hT2 hr (lamS_by (by show lamSB (defScope sRef) _ = true; decide +kernel)) (by rfl) (fun _ _ _ _ _ => rfl) (fun A outer s H E f c' hrL => pe_call GA (hrL.mono (by decide)) (by rfl) gA kA bA .nil (passes_call (takes_of rfl rfl rfl rfl) fun _ _ _ _ h => h) (pa_cons (pv 8) (pa_cons (pv 7) (pa_cons (pv 9) (pa_cons (pv 3) pa_nil)))))) pa_nil)) pe_str (nomark _)) (pss_one (ps_ret pe_bl)) pss_nil)
      (pss_cons (ps_if (pt_cmpR op_ne (pe_call GW hr1 (by rfl) gW kW bW .nil pass0 (pa_cons (pe_lamcall (T := T) (TT := TCaught K CS) (k := 8) (by rfl) gC FC.kp lkC hcC bC scCa rfl (.inl rfl) (caught_gives gS) TB rfl hT1 hT2 hr (lamS_by (by show lamSB (defScope sRef) _ = true; decide +kernel)) (by rfl) (fun _ _ _ _ _ => rfl) (fun A outer s H E f c' hrL => pe_call GA (hrL.mono (by decide)) (by rfl) gA kA bA .nil (passes_call (takes_of rfl rfl rfl rfl) fun _ _ _ _ h => h) (pa_cons (pe_lst (pa_cons (pv 3) pa_nil)) (pa_cons (pv 7) (pa_cons (pv 9) (pa_cons (pv 3) pa_nil)))))) pa_nil)) pe_str (nomark _)) (pss_one (ps_ret pe_bl)) pss_nil)
      (pss_cons (ps_if (pt_cmpR op_ne (pe_call GW hr1 (by rfl) gW kW bW .nil pass0 (pa_cons (pe_lamcall (T := T) (TT := TCaught K CS) (k := 8) (by rfl) gC FC.kp lkC hcC bC scCa rfl (.inl rfl) (caught_gives gS) TB rfl hT1 hT2 hr (lamS_by (by show lamSB (defScope sRef) _ = true; decide +kernel)) (by rfl) (fun _ _ _ _ _ => rfl) (fun A outer s H E f c' hrL => pe_call GA (hrL.mono (by decide)) (by rfl) gA kA bA .nil (passes_call (takes_of rfl rfl rfl rfl) fun _ _ _ _ h => h) (pa_cons (pe_lst (pa_cons (pv 3) pa_nil)) (pa_cons pe_int (pa_cons (pv 9) (pa_cons pe_non pa_nil)))))) pa_nil)) pe_str (nomark _)) (pss_one (ps_ret pe_bl)) pss_nil)
      (pss_cons (ps_if (pt_cmpR op_ne (pe_call GW hr1 (by rfl) gW kW bW .nil pass0 (pa_cons (pe_lamcall (T := T) (TT := TCaught K CS) (k := 8) (by rfl) gC FC.kp lkC hcC bC scCa rfl (.inl rfl) (caught_gives gS) TB rfl hT1 hT2 hr (lamS_by (by show lamSB (defScope sRef) _ = true; decide +kernel)) (by rfl) (fun _ _ _ _ _ => rfl) (fun A outer s H E f c' hrL => pe_call GA (hrL.mono (by decide)) (by rfl) gA kA bA .nil (passes_call (takes_of rfl rfl rfl rfl) fun _ _ _ _ h => h) (pa_cons (pe_lst pa_nil) (pa_cons pe_int (pa_cons (pv 3) (pa_cons (pe_op (show OpR _ (binaryOp .Add) (rCatA K) from op_catA) (pv 3) (pe_tup (pa_cons pe_int pa_nil))) pa_nil)))))) pa_nil)) pe_str (nomark _)) (pss_one (ps_ret pe_bl)) pss_nil)
      (pss_one (ps_ret (pe_cmpR op_eq (pe_call GW hr1 (by rfl) gW kW bW .nil pass0 (pa_cons (pe_lamcall (T := T) (TT := TCaught K CS) (k := 8) (by rfl) gC FC.kp lkC hcC bC scCa rfl (.inl rfl) (caught_gives gS) TB rfl hT1 hT2 hr (lamS_by (by show lamSB (defScope sRef) _ = true; decide +kernel)) (by rfl) (fun _ _ _ _ _ => rfl) (fun A outer s H E f c' hrL => pe_call GA (hrL.mono (by decide)) (by rfl) gA kA bA .nil (passes_call (takes_of rfl rfl rfl rfl) fun _ _ _ _ h => h) (pa_cons (pe_lst (pa_cons (pv 3) pa_nil)) (pa_cons pe_int (pa_cons pe_non (pa_cons (pv 9) pa_nil)))))) pa_nil)) pe_str (nomark _)))))))))))) ?_
  rintro D0 σ H ⟨d, l, c, a, g, wd, y4, y5, y6, y7, y8, y9, rfl, D, hT, w45, cg, q⟩
  have gis : ∀ {G : Hp}, Same (cut d l H) G → Is G (.ref g) (.tup (ones wd)) := fun s => good_is (s _ _ cg) w45
  -- no seat
  refine ⟨_, rfl, _, rfl, by show 1 ≤ sizeLine; decide, fun t1 m1 => ⟨by show 7 ≤ sizeLine; decide, fun e1 ne1 => ?_⟩⟩
  have Z := ((((((OdB.nil D BadS.same).con (x := .int 0) fun _ => ⟨_, .int _, by decide⟩).con (x := .int 10) fun _ => ⟨_, .int _, by decide⟩).con (x := .int (-1)) fun _ => ⟨_, .int _, by decide⟩).con (x := .bl true) fun _ => ⟨_, .bl _, rfl⟩).con (x := .non) fun _ => ⟨_, .non, rfl⟩).con (x := .str "1") fun _ => ⟨_, .str _ (by decide) (by decide +kernel), rfl⟩
  have Z := Z.layF (x := .ref t1) (same_new m1 (o := .tup [.int 1])) fun G s m => ⟨_, .tup (by decide) (.inl (m t1 _ m1 upd_same (fun _ z => by cases z))) (.cons (.int 1) .nil), rfl⟩
  have s1 := same_new m1 (o := .tup [.int 1])
  generalize L2.upd H t1 (.tup [.int 1]) = H1 at Z s1 ne1 ⊢
  refine pick_new Z.D (by show 0 < 7; decide) (by show 7 ≤ 1000; decide) (fun sv H2 hs D2 B2 => ?_) ne1
  have os : BadS (cut d l H2) sv := BadS.same _ _ _ (Z.A sv hs) B2.cut
  have B2 : But d l H H2 := (But.of s1).trans B2
  have T2 := tabs_but hT D B2
  have c2 := B2.cut _ _ cg
  have B02 := B2.n
  clear Z s1 ne1 m1 hs B2
  have eg2 := cut_le _ _ c2
  have gis : ∀ {G : Hp}, Same (cut d l H2) G → Is G (.ref g) (.tup (ones wd)) := fun s => good_is (s _ _ c2) w45
  -- no checks
  have Z := ((OdB.nil D2 BadK.same).con (x := .non) fun _ => ⟨_, .non, rfl⟩).con (x := .int 5) fun _ => ⟨_, .int _, rfl⟩
  intro a1 n1
  have Z := Z.layF (x := .ref a1) (same_new n1 (o := .dK [])) fun G s m => ⟨.dct [], .dct (kvs := []) (by decide) ⟨[], .inl (m a1 _ n1 upd_same (fun _ z => by cases z)), rfl⟩ .nil, rfl⟩
  have S := same_new n1 (o := .dK [])
  generalize L2.upd H2 a1 (.dK []) = G1 at Z S ⊢
  refine ⟨_, rfl, by show 1 ≤ sizeLine; decide, fun a2 n2 => ⟨a2, 5, [.ref g], rfl, rfl, upd_same, by decide, by decide, by show 5 ≤ sizeLine; decide, fun a3 n3 => ?_⟩⟩
  have e5 : (List.replicate (5 : Int).toNat [V.ref g]).flatten = List.replicate 5 (.ref g) := rep_one _ 5
  rw [e5]
  have s := (same_new n2 (o := .lst [.ref g])).trans (same_new n3 (o := .lst (List.replicate 5 (.ref g))))
  have Z := Z.layF (x := .ref a3) s fun G s' m => ⟨_, .lst (by show 5 ≤ 900; decide) (m a3 _ (HLam.upd_none n3) upd_same (fun _ z => by cases z)) (rep_all (gis s') 5), chk_long rfl (by show 4 < 5; decide)⟩
  have S := S.trans s
  generalize L2.upd (L2.upd G1 a2 (.lst [.ref g])) a3 (.lst (List.replicate 5 (.ref g))) = G2 at Z S ⊢
  refine ⟨_, rfl, g, _, rfl, .inr (.inl (.inl (S _ _ eg2))), fun a4 n4 => ⟨by show 1 ≤ sizeLine; decide, fun a5 n5 => ?_⟩⟩
  have s := (same_new n4 (o := .lst (List.replicate wd (.int 1)))).trans (same_new n5 (o := .lst [.ref a4]))
  have Z := Z.layF (x := .ref a5) s fun G s' m => ⟨_, .lst (by show 1 ≤ 900; decide) (m a5 _ (HLam.upd_none n5) upd_same (fun _ z => by cases z)) (.cons (.lst (by rw [List.length_replicate]; omega) (m a4 _ n4 (same_new n5 _ _ upd_same) (fun _ z => by cases z)) (ones_all wd)) .nil), chk_part rfl (List.mem_singleton.mpr rfl) rfl⟩
  have S := S.trans s
  generalize L2.upd (L2.upd G2 a4 (.lst (List.replicate wd (.int 1)))) a5 (.lst [.ref a4]) = G3 at Z S ⊢
  refine ⟨by show 1 ≤ sizeLine; decide, fun a6 n6 => ?_⟩
  have s := same_new n6 (o := .lst [.non])
  have Z := Z.layF (x := .ref a6) s fun G s' m => ⟨_, .lst (by decide) (m a6 _ n6 upd_same (fun _ z => by cases z)) (.cons .non .nil), chk_part rfl (List.mem_singleton.mpr rfl) rfl⟩
  have S := S.trans s
  generalize L2.upd G3 a6 (.lst [.non]) = G4 at Z S ⊢
  refine ⟨_, rfl, cat_good rfl (S _ _ eg2) w45 fun b7 G5 s7 m7 e7 => ⟨by show 2 ≤ sizeLine; decide, fun a7 n7 => ?_⟩⟩
  have s := s7.trans (same_new n7 (o := .lst [.ref g, .ref b7]))
  have Z := Z.layF (x := .ref a7) s fun G s' m => ⟨_, .lst (by show 2 ≤ 900; decide) (m a7 _ (s7.free n7) upd_same (fun _ z => by cases z)) (.cons (gis s') (.cons (gives_part (m b7 _ m7 (same_new n7 _ _ e7) (fun _ z => by cases z)) (.int 1) w45) .nil)), chk_wide (ones_more _ _)⟩
  have S := S.trans s
  generalize L2.upd G5 a7 (.lst [.ref g, .ref b7]) = G6 at Z S ⊢
  clear s7 m7 e7 s
  refine cat_good rfl (S _ _ eg2) w45 fun b8 G7 s8 m8 e8 => ⟨by show 1 ≤ sizeLine; decide, fun a8 n8 => ⟨by show 8 ≤ sizeLine; decide, fun e9 ne9 => ?_⟩⟩
  have s := s8.trans (same_new n8 (o := .lst [.ref b8]))
  have Z := Z.layF (x := .ref a8) s fun G s' m => ⟨_, .lst (by show 1 ≤ 900; decide) (m a8 _ (s8.free n8) upd_same (fun _ z => by cases z)) (.cons (gives_part (m b8 _ m8 (same_new n8 _ _ e8) (fun _ z => by cases z)) (.bl true) w45) .nil), chk_part rfl (List.mem_singleton.mpr rfl) (no_num (x := .bl true) (List.mem_append_right _ (List.mem_singleton.mpr rfl)) rfl)⟩
  have S := S.trans s
  generalize L2.upd G7 a8 (.lst [.ref b8]) = G8 at Z S ne9 ⊢
  clear s8 m8 e8 s
  refine ⟨_, rfl, _, rfl, ?_⟩
  refine pick_new Z.D (by show 0 < 8; decide) (by show 8 ≤ 1000; decide) (fun x H3 hx D3 B3 => ?_) ne9
  have ox : BadK (cut d l H3) x := BadK.same _ _ _ (Z.A x hx) B3.cut
  have B3 : But d l H2 H3 := (But.of S).trans B3
  have T3 := tabs_but T2 D2 B3
  have c3 := B3.cut _ _ c2
  have os := BadS.same _ _ _ os B3.cut
  have B03 := B02.trans B3.n
  clear Z S ne9 hx B3 n1 n2 n3 n4 n5 n6 n7 n8 gis eg2
  have eg3 := cut_le _ _ c3
  -- no part
  have Z := (OdB.nil D3 (BadP.same wd)).con (x := .int 5) fun _ => ⟨_, .int _, rfl, rfl⟩
  refine ⟨_, rfl, _, rfl, g, _, rfl, .inr (.inl (.inl eg3)), fun a1 n1 => ?_⟩
  have s := same_new n1 (o := .lst (List.replicate wd (.int 1)))
  have Z := Z.layF (x := .ref a1) s fun G s' m => ⟨_, .lst (by rw [List.length_replicate]; omega) (m a1 _ n1 upd_same (fun _ z => by cases z)) (ones_all wd), rfl, rfl⟩
  have S := s
  generalize L2.upd H3 a1 (.lst (List.replicate wd (.int 1))) = G1 at Z S ⊢
  clear s
  refine cat_good rfl (S _ _ eg3) w45 fun b2 G2 s2 m2 e2 => ?_
  have Z := Z.layF (x := .ref b2) s2 fun G s' m => ⟨_, gives_part (m b2 _ m2 e2 (fun _ z => by cases z)) (.int 1) w45, rfl, by rw [wide_more (ones_more _ _), Bool.and_false]⟩
  have S := S.trans s2
  clear s2 m2 e2
  refine cat_good rfl (S _ _ eg3) w45 fun b3 G3 s3 m3 e3 => ?_
  have Z := Z.layF (x := .ref b3) s3 fun G s' m => ⟨_, gives_part (m b3 _ m3 e3 (fun _ z => by cases z)) .non w45, rfl, by rw [no_num (x := .non) (List.mem_append_right _ (List.mem_singleton.mpr rfl)) rfl, Bool.false_and]⟩
  have S := S.trans s3
  clear s3 m3 e3
  have Z := Z.con (x := .str "a") fun _ => ⟨_, .str _ (by decide) (by decide +kernel), rfl, rfl⟩
  intro a4 n4
  have s := same_new n4 (o := .dK [])
  have Z := Z.layF (x := .ref a4) s fun G s' m => ⟨.dct [], .dct (kvs := []) (by decide) ⟨[], .inl (m a4 _ n4 upd_same (fun _ z => by cases z)), rfl⟩ .nil, rfl, rfl⟩
  have S := S.trans s
  generalize L2.upd G3 a4 (.dK []) = G4 at Z S ⊢
  clear s
  refine ⟨by show 6 ≤ sizeLine; decide, fun e5 ne5 => ?_⟩
  refine pick_new Z.D (by show 0 < 6; decide) (by show 6 ≤ 1000; decide) (fun pt H4 hp D4 B4 => ?_) ne5
  have op : BadP wd (cut d l H4) pt := BadP.same wd _ _ _ (Z.A pt hp) B4.cut
  have B4 : But d l H3 H4 := (But.of S).trans B4
  have T4 := tabs_but T3 D3 B4
  have c4 := B4.cut _ _ c3
  have os := BadS.same _ _ _ os B4.cut
  have ox := BadK.same _ _ _ ox B4.cut
  have B04 := B03.trans B4.n
  clear Z S ne5 hp B4 n1 n4 eg3 B03 B02 c2 c3 D2 D3 T2 T3 D hT
  -- the calls
  have gis : ∀ {G G' : Hp}, ButN d l H4 G → Same (cut d l G) G' → Is G' (.ref g) (.tup (ones wd)) := fun b s => good_is (s _ _ (b.cut _ _ c4)) w45
  have one : ∀ {G : Hp} {p : Addr}, ButN d l H4 G → G p = none → Is (L2.upd G p (.lst [.ref g])) (.ref p) (.lst [.tup (ones wd)]) := fun b n => .lst (by show 1 ≤ 900; decide) upd_same (.cons (gis b (cut_le.trans (same_new n))) .nil)
  refine word_step (i := 2) (C := CK) (c := c) D4 T4 rfl rfl X.k.xm (fun G1 D6 T6 B6 E Q' hE => ?_) fun H5 D5 T5 B5 => ?_
  · obtain ⟨u1, i1, w1⟩ := BadK.same _ _ _ (BadK.same _ _ _ ox B6.cut) cut_le
    obtain ⟨u2, i2, w2⟩ := BadS.same _ _ _ (BadS.same _ _ _ os B6.cut) cut_le
    obtain ⟨u3, i3, w3⟩ := BadP.same wd _ _ _ (BadP.same wd _ _ _ op B6.cut) cut_le
    exact ⟨_, rfl, _, rfl, _, rfl, _, rfl, x, sv, pt, .ref g, u1, u2, u3, _, rfl, i1, i2, i3, gis B6 cut_le, .inl ⟨w1, fun H' s => hE H' (D6.same s) (T6.ext s) (But.of s).n⟩⟩
  refine word_step (i := 3) (C := CE) (c := c) D5 T5 rfl rfl X.e.xm (fun G1 D6 T6 B6 E Q' hE => ?_) fun H6 D6 T6 B6 => ?_
  · have B6 := B5.trans B6
    refine ⟨_, rfl, by show 1 ≤ sizeLine; decide, fun p np => ?_⟩
    obtain ⟨u2, i2, w2⟩ := BadS.same _ _ _ (BadS.same _ _ _ os B6.cut) (cut_le.trans (same_new np))
    obtain ⟨u3, i3, w3⟩ := BadP.same wd _ _ _ (BadP.same wd _ _ _ op B6.cut) (cut_le.trans (same_new np))
    refine ⟨_, rfl, _, rfl, _, rfl, .ref p, sv, pt, .ref g, _, u2, u3, _, rfl, one B6 np, i2, i3, gis B6 (cut_le.trans (same_new np)), .inr (.inl ⟨chk_one w45, w2, fun H' s => ?_⟩)⟩
    have s := (same_new np).trans s
    exact hE H' (D6.same s) (T6.ext s) (But.of s).n
  have B6 := B5.trans B6
  refine word_step (i := 0) (C := CT) (c := c) D6 T6 rfl rfl X.t.xm (fun G1 D7 T7 B7 E Q' hE => ?_) fun H7 D7 T7 B7 => ?_
  · have B7 := B6.trans B7
    refine ⟨_, rfl, by show 1 ≤ sizeLine; decide, fun p np => ?_⟩
    obtain ⟨u3, i3, n3, w3⟩ := BadP.same wd _ _ _ (BadP.same wd _ _ _ op B7.cut) (cut_le.trans (same_new np))
    refine ⟨_, rfl, .ref p, .int 1, pt, .non, _, _, u3, _, rfl, one B7 np, .int 1, i3, .non, .inr (.inr (.inl ⟨chk_one w45, by decide, _, rfl, ?_, fun H' s => ?_⟩))⟩
    · have e : thereW u3 .non = [u3] := by
        show [u3, W.non].filter nnW = [u3]
        rw [List.filter_cons, if_pos n3]
        rfl
      rw [e]
      show ((tupNW u3 && true) && wideW [W.tup (ones wd), u3]) = false
      rw [Bool.and_true]
      exact w3
    have s := (same_new np).trans s
    exact hE H' (D7.same s) (T7.ext s) (But.of s).n
  have B7 := B6.trans B7
  refine word_step (i := 0) (C := CT) (c := c) D7 T7 rfl rfl X.t.xm (fun G1 D8 T8 B8 E Q' hE => ?_) fun H8 D8 T8 B8 => ?_
  · have B8 := B7.trans B8
    refine ⟨by show 0 ≤ sizeLine; decide, fun p np => ?_⟩
    have eg : (L2.upd G1 p (.lst [])) g = some (.tup (List.replicate wd (.int 1))) := same_new np _ _ (cut_le _ _ (B8.cut _ _ c4))
    refine ⟨_, rfl, cat_good rfl eg w45 fun b G2 s2 m2 e2 => ⟨.ref p, .int 1, .ref g, .ref b, .lst [], _, _, _, rfl, .lst (by decide) (s2 _ _ upd_same) .nil, .int 1, gis B8 (cut_le.trans ((same_new np).trans s2)), gives_part e2 (.int 1) w45, .inr (.inr (.inl ⟨rfl, by decide, _, rfl, ?_, fun H' s => ?_⟩))⟩⟩
    · show (_ && wideW [W.tup (ones wd), .tup (ones wd ++ [.int 1])]) = false
      rw [wide_more (ones_more _ _), Bool.and_false]
    · have s := ((same_new np).trans s2).trans s
      exact hE H' (D8.same s) (T8.ext s) (But.of s).n
  have B8 := B7.trans B8
  refine word_ret (i := 0) (C := CT) (c := c) D8 T8 rfl rfl X.t.xm (fun G1 D9 T9 B9 E Q' hE => ?_) fun H9 D9 T9 B9 => q H9 D9 T9 ((B04.trans B8).trans B9)
  · have B9 := B8.trans B9
    refine ⟨_, rfl, by show 1 ≤ sizeLine; decide, fun p np => ?_⟩
    obtain ⟨u3, i3, n3, w3⟩ := BadP.same wd _ _ _ (BadP.same wd _ _ _ op B9.cut) (cut_le.trans (same_new np))
    refine ⟨_, rfl, .ref p, .int 1, .non, pt, _, _, _, u3, rfl, one B9 np, .int 1, .non, i3, .inr (.inr (.inl ⟨chk_one w45, by decide, _, rfl, ?_, fun H' s => ?_⟩))⟩
    · have e : thereW .non u3 = [u3] := by
        show [W.non, u3].filter nnW = [u3]
        rw [List.filter_cons, if_neg (by decide), List.filter_cons, if_pos n3]
        rfl
      rw [e]
      show ((tupNW u3 && true) && wideW [W.tup (ones wd), u3]) = false
      rw [Bool.and_true]
      exact w3
    have s := (same_new np).trans s
    exact hE H' (D9.same s) (T9.ext s) (But.of s).n
end
end Kn
-- part TRefA
set_option maxHeartbeats 8000000
/-! _law_refused_right. -/
namespace Kn
open PySem PySem.Spec PyProof.Rows L2 Err LamX HLam
section
variable {P : Program} {w : World} {K : PySem.W.Frag} {mg : Str → Option Value} {base : Heap}
theorem ok_ref {T : List (Addr × Str)} {Pt c0 f fP fW fO fA fC CS CT CC CK CE : Addr} {fd fdP fdW fdO fdA fdC : FuncData} (F : FunC K "_law_refused_right" "_law_refused_right" sRef f fd c0) (TB : TabB base mg c0 Pt) (hT1 : (Pt, ("_law_refused_right.<locals>." : Str) ++ "<lambda>") ∈ T) (hT2 : ∀ p ∈ T, p.1 = Pt → p.2 = ("_law_refused_right.<locals>." : Str) ++ "<lambda>")
    (X : Four K mg CS CT CC CK CE) (gS : mg "StillError" = some (.ref CS))
    (GP : FnOk P w K mg base CX0 3 fP fdP ["_law_draw", "_law_some"] spPick) (kP : PySem.W.keepIn K (.ref fP) = true) (bP : Binds K fdP ["_law_draw", "_law_some"] []) (gP : mg "_law_pick" = some (.ref fP))
    (GW : FnOk P w K mg base CX0 1 fW fdW ["_law_error"] (spWord CT CC CK CE)) (kW : PySem.W.keepIn K (.ref fW) = true) (bW : Binds K fdW ["_law_error"] []) (gW : mg "_law_word" = some (.ref fW))
    (GO : FnOk P w K mg base (L2.CX P w) 7 fO fdO ["tuples", "count"] (spOr (spOf CT CC) (spOf2 P w CT))) (kO : PySem.W.keepIn K (.ref fO) = true) (bO : Binds K fdO ["tuples", "count"] []) (gO : mg "checks_of" = some (.ref fO))
    (GA : FnOk P w K mg base (L2.CX P w) 5 fA fdA ["checks", "seat", "before", "later"] (spAfter CK CE CT)) (kA : PySem.W.keepIn K (.ref fA) = true) (bA : Binds K fdA ["checks", "seat", "before", "later"] []) (gA : mg "after_change" = some (.ref fA))
    (FC : Fun K "_law_caught" "_law_caught" sCaught fC fdC) (bC : Binds K fdC ["_law_work"] []) (gC : mg "_law_caught" = some (.ref fC))
    (mt : mg "tuple" = none) (ml : mg "list" = none) (md : mg "dict" = none) (mr : mg "range" = none) : FnOk P w K mg base CX0 11 f fd ["_law_draw", "_law_tuples_here", "_law_width"] (spRef T) := by
  have S := scRef
  have FC0 := FC
  obtain ⟨ocC, odC, kVC, docC, pmC, anC, cdC, ctC, oslC, rfl, lkC, hcC⟩ := FC.ex
  refine F.ok S (fun vs H Q E h => ?_) (fun A outer s H vs Q E hr h => ?_)
  · obtain ⟨d, l, c, a, L, wd, rfl, _⟩ := h
    rfl
  · obtain ⟨d, l, c, a, L, wd, rfl, D, hT, hL, ok, l8, q⟩ := h
    have hu := hu_of hr
    have hr3 := hr.mono (show 3 ≤ 10 by decide)
    have hr1 := hr.mono (show 1 ≤ 10 by decide)
    have tokC := ref_c (f := f) (c0 := c0) (A := A) (outer := outer) (s0 := s) (H00 := H) (E00 := E) TB hT1 hT2 X gS GP kP bP gP GW kW bW gW GO kO bO gO GA kA bA gA FC0 bC gC mt ml md mr hr
    have tok := ref_b (f := f) (c0 := c0) (A := A) (outer := outer) (s0 := s) (H00 := H) (E00 := E) TB hT1 hT2 X gS GP kP bP gP GW kW bW gW GO kO bO gO GA kA bA gA FC0 bC gC mt ml md mr hr tokC
    refine ⟨_, (pss_cons (ps_set (i := 3) S.nd rfl (.inr rfl) (pe_callTy (show CallR _ (.type "tuple") (rTupA K) from call_tuple_of) (by rfl) mt (by decide +kernel) (pa_cons (pe_op (show OpR _ (binaryOp .Mult) rRep from op_rep) (pe_lst (pa_cons pe_int pa_nil)) (pv 2)) pa_nil)))
      (pss_cons (ps_set (i := 4) S.nd rfl (.inl rfl) (pe_lst (pa_cons pe_non (pa_cons pe_int (pa_cons (pe_lst pa_nil) (pa_cons (pe_tup pa_nil) (pa_cons pe_dnewK (pa_cons (pe_disp (pps_cons pe_int (pv 3) pps_nil) rfl rfl (by decide) (by decide)) (pa_cons (pe_disp (pps_cons pe_int (pv 3) pps_nil) rfl rfl (by decide) (by decide)) (pa_cons (pe_dispT pe_bl (pv 3)) (pa_cons (pe_disp (pps_cons pe_str (pv 3) pps_nil) rfl rfl (by decide) (by decide)) (pa_cons (pe_disp (pps_cons pe_int (pe_callTy (show CallR _ (.type "list") (rLstA K) from call_list_of) (by rfl) ml (by decide +kernel) (pa_cons (pv 3) pa_nil)) pps_nil) rfl rfl (by decide) (by decide)) (pa_cons (pe_disp (pps_cons pe_int pe_non pps_nil) rfl rfl (by decide) (by decide)) pa_nil)))))))))))))
      (pss_cons (ps_set (i := 4) S.nd rfl (.inl rfl) (pe_op op_cat (pv 4) (pe_lst (pa_cons (pe_disp (pps_cons pe_int (pv 3) (pps_cons pe_int (pe_op (show OpR _ (binaryOp .Add) (rCatA K) from op_catA) (pv 3) (pe_tup (pa_cons pe_int pa_nil))) pps_nil)) rfl rfl (by decide) (by decide)) (pa_cons (pe_disp (pps_cons pe_int (pe_op (show OpR _ (binaryOp .Add) (rCatA K) from op_catA) (pe_op (show OpR _ (binaryOp .Mult) (rRepA K) from op_repA) (pe_tup (pa_cons pe_bl pa_nil)) (pv 2)) (pe_tup (pa_cons pe_bl pa_nil))) pps_nil) rfl rfl (by decide) (by decide)) (pa_cons (pe_disp (pps_cons pe_int (pe_op (show OpR _ (binaryOp .Mult) (rRepA K) from op_repA) (pe_tup (pa_cons pe_int pa_nil)) pe_int) pps_nil) rfl rfl (by decide) (by decide)) (pa_cons (pe_disp (pps_cons pe_int (pe_op (show OpR _ (binaryOp .Add) (rCatA K) from op_catA) (pv 3) (pe_tup (pa_cons pe_non pa_nil))) pps_nil) rfl rfl (by decide) (by decide)) pa_nil)))))))
      (pss_cons (ps_expr (pe_bm PySem.F.plainAttrs_list PySem.F.slot_list_append PySem.F.type_list_append mt_append (pv 4) (pa_cons (pe_callTy (call_dictP rfl) (by rfl) md (by decide +kernel) (pa_cons (pe_lc (own := [("_law_seat", 7)]) (g := gName 7) rfl S.nd (pi_range2 (by rfl) mr (pa_cons pe_int (pa_cons pe_int pa_nil))) (blkOk_by (N := NRef) (sc := defScope sRef) (by decide +kernel)) (fun _ _ _ _ _ => (pg_name (i := 7) S.nd rfl (.inl rfl))) (fun _ _ _ _ _ => pts_nil) (fun _ _ _ _ _ => (pe_tup (pa_cons (pv 7) (pa_cons (pv 3) pa_nil))))) pa_nil)) pa_nil)))
      tok)))), ?_⟩
    -- what is good
    refine ⟨by show 1 ≤ sizeLine; decide, fun p1 n1 => ⟨_, rfl, p1, wd, [.int 1], rfl, rfl, upd_same, by omega, by have := ok.w45; omega, ?_, fun p2 n2 => ⟨p2, _, rfl, .inl ⟨SqL.of upd_same, fun g ng => ?_⟩⟩⟩⟩
    · rw [Int.toNat_natCast]
      have := ok.w45
      show 1 * wd ≤ sizeLine
      rw [sizeLine_eq]
      omega
    have w45 := ok.w45
    rw [Int.toNat_natCast, rep_one] at ng ⊢
    have gn : H g = none := HLam.upd_none (HLam.upd_none ng)
    have s1 : Same H (L2.upd (L2.upd (L2.upd H p1 (.lst [.int 1])) p2 (.lst (List.replicate wd (.int 1)))) g (.tup (List.replicate wd (.int 1)))) := ((same_new n1).trans (same_new n2)).trans (same_new ng)
    have eg : (L2.upd (L2.upd (L2.upd H p1 (.lst [.int 1])) p2 (.lst (List.replicate wd (.int 1)))) g (.tup (List.replicate wd (.int 1)))) g = some (.tup (List.replicate wd (.int 1))) := upd_same
    generalize L2.upd (L2.upd (L2.upd H p1 (.lst [.int 1])) p2 (.lst (List.replicate wd (.int 1)))) g (.tup (List.replicate wd (.int 1))) = H1 at s1 eg ⊢
    have D1 := D.same s1
    have cg : cut d l H1 g = some (.tup (List.replicate wd (.int 1))) := cut_at eg (D.off gn).1 (D.off gn).2
    have gis : ∀ {G : Hp}, Same (cut d l H1) G → Is G (.ref g) (.tup (ones wd)) := fun s => good_is (s _ _ cg) w45
    have Z0 : Ods P w d l c H1 H1 [.non, .int 5] := ⟨D1, Same.refl _, fun x hx => by
      simp only [List.mem_cons, List.not_mem_nil, or_false] at hx
      rcases hx with rfl | rfl
      · exact .inl ⟨_, .non, (fun _ _ _ z => by cases z), rfl⟩
      · exact .inl ⟨_, .int 5, (fun _ _ _ z => by cases z), rfl⟩⟩
    refine ⟨by show 0 ≤ sizeLine; decide, fun a3 n3 => ?_⟩
    have Z3 := Z0.lay (o := .lst []) n3 fun G s e => .inl ⟨_, .lst (by decide) e .nil, nf_of e (fun _ _ z => by cases z), rfl⟩
    generalize L2.upd H1 a3 (.lst []) = H3 at Z3 ⊢
    refine ⟨by show 0 ≤ sizeLine; decide, fun a4 n4 => ?_⟩
    have Z4 := Z3.lay (o := .tup []) n4 fun G s e => .inl ⟨_, .tup (by decide) (.inl e) .nil, nf_of e (fun _ _ z => by cases z), rfl⟩
    generalize L2.upd H3 a4 (.tup []) = H4 at Z4 ⊢
    intro a5 n5
    have Z5 := Z4.lay (o := .dK []) n5 fun G s e => .inl ⟨.dct [], .dct (kvs := []) (by decide) ⟨[], .inl e, rfl⟩ .nil, nf_of e (fun _ _ z => by cases z), by kernel_rfl⟩
    generalize L2.upd H4 a5 (.dK []) = H5 at Z5 ⊢
    refine disp_var (k := .inl 0) rfl rfl fun a6 n6 => ?_
    have Z6 := Z5.lay (o := .dK [(.inl 0, .ref g)]) n6 fun G s e => odd_dict e trivial (gis s) (odd_key (by decide))
    generalize L2.upd H5 a6 (.dK [(.inl 0, .ref g)]) = H6 at Z6 ⊢
    refine disp_var (k := .inl 10) rfl rfl fun a7 n7 => ?_
    have Z7 := Z6.lay (o := .dK [(.inl 10, .ref g)]) n7 fun G s e => odd_dict e trivial (gis s) (odd_key (by decide))
    generalize L2.upd H6 a7 (.dK [(.inl 10, .ref g)]) = H7 at Z7 ⊢
    refine fun a8 n8 => ⟨_, rfl, _, rfl, upd_same, fun o8 z8 f8 => ?_⟩
    rw [upd_upd]
    have Z8 := Z7.lay (o := tdO a8 o8) n8 fun G s e => .inr ⟨a8, rfl, o8, e, z8, f8⟩
    generalize L2.upd H7 a8 (tdO a8 o8) = H8 at Z8 ⊢
    refine disp_var (k := .inr "a") rfl rfl fun a9 n9 => ?_
    have Z9 := Z8.lay (o := .dK [(.inr "a", .ref g)]) n9 fun G s e => odd_dict e ⟨by decide, by decide +kernel⟩ (gis s) (odd_key rfl)
    generalize L2.upd H8 a9 (.dK [(.inr "a", .ref g)]) = H9 at Z9 ⊢
    have eg9 := cut_le _ _ ((But.of Z9.S).cut _ _ cg)
    refine fun a10 n10 => ⟨_, rfl, g, _, rfl, .inr (.inl (.inl (same_new n10 _ _ eg9))), fun b10 m10 => ⟨same_new m10 _ _ upd_same, [(.inl 1, .ref b10)], rfl, by show 1 ≤ 15; decide, ?_⟩⟩
    have em : ∀ y : V, mergeK [] [((.inl 1 : Key), y)] = [((.inl 1 : Key), y)] := fun y => by kernel_rfl
    rw [em]
    have Z10 := Z9.layG (o := .dK [(.inl 1, .ref b10)]) n10 (same_new m10 (o := .lst (List.replicate wd (.int 1)))) fun G s m e => odd_dict e trivial (.lst (by rw [List.length_replicate]; omega) (m b10 _ m10 upd_same (fun _ z => by cases z)) (ones_all wd)) (odd_one rfl)
    generalize L2.upd (L2.upd (L2.upd H9 a10 (.dK [])) b10 (.lst (List.replicate wd (.int 1)))) a10 (.dK [(.inl 1, .ref b10)]) = H10 at Z10 ⊢
    refine disp_con (k := .inl 1) rfl fun a11 n11 => ?_
    have Z11 := Z10.lay (o := .dK [(.inl 1, .non)]) n11 fun G s e => odd_dict e trivial .non (odd_one rfl)
    generalize L2.upd H10 a11 (.dK [(.inl 1, .non)]) = H11 at Z11 ⊢
    refine ⟨by show 11 ≤ sizeLine; decide, fun l1 nl1 => ?_⟩
    have Y1 : Ods P w d l c H1 (L2.upd H11 l1 (.lst [.non, .int 5, .ref a3, .ref a4, .ref a5, .ref a6, .ref a7, .ref a8, .ref a9, .ref a10, .ref a11])) [.non, .int 5, .ref a3, .ref a4, .ref a5, .ref a6, .ref a7, .ref a8, .ref a9, .ref a10, .ref a11] := Z11.grow (same_new nl1)
    have el1 : (L2.upd H11 l1 (.lst [.non, .int 5, .ref a3, .ref a4, .ref a5, .ref a6, .ref a7, .ref a8, .ref a9, .ref a10, .ref a11])) l1 = some (.lst [.non, .int 5, .ref a3, .ref a4, .ref a5, .ref a6, .ref a7, .ref a8, .ref a9, .ref a10, .ref a11]) := upd_same
    generalize L2.upd H11 l1 (.lst [.non, .int 5, .ref a3, .ref a4, .ref a5, .ref a6, .ref a7, .ref a8, .ref a9, .ref a10, .ref a11]) = H12 at Y1 el1 ⊢
    clear Z0 Z3 Z4 Z5 Z6 Z7 Z8 Z9 Z10 Z11 n3 n4 n5 n6 n7 n8 n9 n10 n11 nl1
    -- four more
    have eg12 : H12 g = some (.tup (List.replicate wd (.int 1))) := cut_le _ _ ((But.of Y1.S).cut _ _ cg)
    have isl1 : ∀ {H' : Hp}, Same H12 H' → H' l1 = some (.lst [.non, .int 5, .ref a3, .ref a4, .ref a5, .ref a6, .ref a7, .ref a8, .ref a9, .ref a10, .ref a11]) := fun s => s _ _ el1
    refine ⟨_, rfl, fun a12 n12 => ⟨_, rfl, cat_good rfl (same_new n12 _ _ eg12) w45 fun b12 G s m12 e12 => ⟨s _ _ upd_same, [(.inl 1, .ref g), (.inl 2, .ref b12)], rfl, by show 2 ≤ 15; decide, ?_⟩⟩⟩
    have em2 : ∀ y z : V, mergeK [] [((.inl 1 : Key), y), (.inl 2, z)] = [((.inl 1 : Key), y), (.inl 2, z)] := fun y z => by kernel_rfl
    rw [em2]
    have Z12 := Y1.layG (o := .dK [(.inl 1, .ref g), (.inl 2, .ref b12)]) n12 s fun G' s' m e => .inl ⟨.dct [(some (.inl 1), .tup (ones wd)), (some (.inl 2), .tup (ones wd ++ [.int 1]))], .dct (kvs := [(some (.inl 1), .ref g), (some (.inl 2), .ref b12)]) (by show 2 ≤ 900; decide) ⟨_, .inl e, rfl⟩ (.cons trivial (gis s') (.cons trivial (gives_part (m b12 _ m12 e12 (fun _ z => by cases z)) (.int 1) w45) .nil)), nf_of e (fun _ _ z => by cases z), odd_wide (by rw [List.length_append]; show (ones wd).length ≠ (ones wd).length + 1; omega)⟩
    have k1 := (same_new n12).trans s |> same_own n12 (o := .dK [(.inl 1, .ref g), (.inl 2, .ref b12)])
    generalize L2.upd G a12 (.dK [(.inl 1, .ref g), (.inl 2, .ref b12)]) = H13 at Z12 k1 ⊢
    clear s m12 e12
    refine fun a13 n13 => cat_true rfl w45 fun b13 G s m13 e13 => ⟨s _ _ upd_same, [(.inl 1, .ref b13)], rfl, by show 1 ≤ 15; decide, ?_⟩
    rw [em]
    have Z13 := Z12.layG (o := .dK [(.inl 1, .ref b13)]) n13 s fun G' s' m e => odd_dict e trivial (.tup (by rw [List.length_replicate]; omega) (.inl (m b13 _ m13 e13 (fun _ z => by cases z))) (rep_all (.bl true) _)) (odd_one (no_num (x := .bl true) (List.mem_replicate.mpr ⟨by omega, rfl⟩) rfl))
    have k2 := (same_new n13).trans s |> same_own n13 (o := .dK [(.inl 1, .ref b13)])
    generalize L2.upd G a13 (.dK [(.inl 1, .ref b13)]) = H14 at Z13 k2 ⊢
    clear s m13 e13
    refine fun a14 n14 => rep_46 fun b14 G s m14 e14 => ⟨s _ _ upd_same, [(.inl 1, .ref b14)], rfl, by show 1 ≤ 15; decide, ?_⟩
    rw [em]
    have Z14 := Z13.layG (o := .dK [(.inl 1, .ref b14)]) n14 s fun G' s' m e => odd_dict e trivial (.tup (by decide) (.inl (m b14 _ m14 e14 (fun _ z => by cases z))) (rep_all (.int 0) 46)) (odd_one (no_wide (by rw [List.length_replicate]; decide)))
    have k3 := (same_new n14).trans s |> same_own n14 (o := .dK [(.inl 1, .ref b14)])
    generalize L2.upd G a14 (.dK [(.inl 1, .ref b14)]) = H15 at Z14 k3 ⊢
    clear s m14 e14
    have eg15 : H15 g = some (.tup (List.replicate wd (.int 1))) := cut_le _ _ ((But.of Z14.S).cut _ _ cg)
    refine fun a15 n15 => cat_good rfl (same_new n15 _ _ eg15) w45 fun b15 G s m15 e15 => ⟨s _ _ upd_same, [(.inl 1, .ref b15)], rfl, by show 1 ≤ 15; decide, ?_⟩
    rw [em]
    have Z15 := Z14.layG (o := .dK [(.inl 1, .ref b15)]) n15 s fun G' s' m e => odd_dict e trivial (gives_part (m b15 _ m15 e15 (fun _ z => by cases z)) .non w45) (odd_one (no_num (x := .non) (List.mem_append_right _ (List.mem_singleton.mpr rfl)) rfl))
    have k4 := (same_new n15).trans s |> same_own n15 (o := .dK [(.inl 1, .ref b15)])
    generalize L2.upd G a15 (.dK [(.inl 1, .ref b15)]) = H16 at Z15 k4 ⊢
    clear s m15 e15
    have k14 := ((k1.trans k2).trans k3).trans k4
    refine ⟨by show 4 ≤ sizeLine; decide, fun l2 nl2 => ⟨l1, l2, _, _, rfl, rfl, same_new nl2 _ _ (k14 _ _ el1), upd_same, by show 15 ≤ sizeLine; decide, fun l3 nl3 => ?_⟩⟩
    have Y3 : Ods P w d l c H1 H16 [.non, .int 5, .ref a3, .ref a4, .ref a5, .ref a6, .ref a7, .ref a8, .ref a9, .ref a10, .ref a11, .ref a12, .ref a13, .ref a14, .ref a15] := Z15
    have s17 : Same H16 (L2.upd (L2.upd H16 l2 (.lst [.ref a12, .ref a13, .ref a14, .ref a15])) l3 (.lst ([.non, .int 5, .ref a3, .ref a4, .ref a5, .ref a6, .ref a7, .ref a8, .ref a9, .ref a10, .ref a11] ++ [.ref a12, .ref a13, .ref a14, .ref a15]))) := (same_new nl2).trans (same_new nl3)
    have e17 : (L2.upd (L2.upd H16 l2 (.lst [.ref a12, .ref a13, .ref a14, .ref a15])) l3 (.lst ([.non, .int 5, .ref a3, .ref a4, .ref a5, .ref a6, .ref a7, .ref a8, .ref a9, .ref a10, .ref a11] ++ [.ref a12, .ref a13, .ref a14, .ref a15]))) l3 = some (.lst ([.non, .int 5, .ref a3, .ref a4, .ref a5, .ref a6, .ref a7, .ref a8, .ref a9, .ref a10, .ref a11] ++ [.ref a12, .ref a13, .ref a14, .ref a15])) := upd_same
    have n17 : H16 l3 = none := HLam.upd_none nl3
    generalize (L2.upd (L2.upd H16 l2 (.lst [.ref a12, .ref a13, .ref a14, .ref a15])) l3 (.lst ([.non, .int 5, .ref a3, .ref a4, .ref a5, .ref a6, .ref a7, .ref a8, .ref a9, .ref a10, .ref a11] ++ [.ref a12, .ref a13, .ref a14, .ref a15]))) = H17 at s17 e17 ⊢
    clear Y1 Z12 Z13 Z14 Z15 isl1 k1 k2 k3 k4 k14 n12 n13 n14 n15 nl2 nl3 el1 eg12 eg15 eg9
    -- nine seats
    refine ⟨_, rfl, .inl ⟨rfl, _, SqL.of e17⟩, ?_⟩
    refine ⟨1, 10, rfl, ⟨by decide, by decide, by decide, by decide⟩, fun Dl nDl => lc_it (D := Dl) walk_range (fun i G => ∃ ps : List Addr, G Dl = some (.lst (ps.map V.ref)) ∧ Paired (fun (p : Addr) (kv : Key × V) => G p = some (.tup [kV kv.1, kv.2])) ps ((List.range i).map fun j : Nat => ((.inl (1 + (j : Int)) : Key), V.ref g)) ∧ ps.length = i ∧ Same H17 G) ⟨[], upd_same, .nil, rfl, same_new nDl⟩ (fun _ _ _ _ => trivial) ?_ ?_⟩
    · rintro i x G G' hi ⟨ps, eD, pr, lp, sG⟩ ⟨rfl, rfl⟩
      have hi : i < 9 := hi
      refine ⟨rfl, ?_⟩
      dsimp only [tYes]
      rw [if_pos rfl]
      refine ⟨_, rfl, _, rfl, by show 2 ≤ sizeLine; decide, fun tp ntp => ⟨ps.map V.ref, same_new ntp _ _ eD, by rw [List.length_map]; exact small1000 (by omega), ps ++ [tp], ?_, ?_, by rw [List.length_append, lp]; rfl, ?_⟩⟩
      · rw [upd_same, List.map_append]
        rfl
      · have ne : tp ≠ Dl := fun z => by rw [z, eD] at ntp; cases ntp
        rw [List.range_succ, List.map_append]
        refine pr_snoc (pr_keep pr fun p xs e => ?_) ?_
        · have n1 : p ≠ Dl := fun z => by rw [z, eD] at e; cases e
          rw [upd_ne n1]
          exact same_new ntp _ _ e
        · rw [upd_ne ne]
          exact upd_same
      · exact same_own nDl (sG.trans (same_new ntp))
    rintro G ⟨ps, eD, pr, lp, sG⟩
    have pr : Paired (fun (p : Addr) (kv : Key × V) => G p = some (.tup [kV kv.1, kv.2])) ps ((List.range 9).map fun j : Nat => ((.inl (1 + (j : Int)) : Key), V.ref g)) := pr
    refine ⟨Dl, ps, _, rfl, SqL.of eD, pr_sq pr, fun a16 n16 => ?_⟩
    have em9 : mergeK [] ((List.range 9).map fun j : Nat => ((.inl (1 + (j : Int)) : Key), V.ref g)) = [(.inl 1, .ref g), (.inl 2, .ref g), (.inl 3, .ref g), (.inl 4, .ref g), (.inl 5, .ref g), (.inl 6, .ref g), (.inl 7, .ref g), (.inl 8, .ref g), (.inl 9, .ref g)] := by kernel_rfl
    rw [em9]
    have s18 : Same H17 (L2.upd G a16 (.dK [(.inl 1, .ref g), (.inl 2, .ref g), (.inl 3, .ref g), (.inl 4, .ref g), (.inl 5, .ref g), (.inl 6, .ref g), (.inl 7, .ref g), (.inl 8, .ref g), (.inl 9, .ref g)])) := sG.trans (same_new n16)
    have e18 : (L2.upd G a16 (.dK [(.inl 1, .ref g), (.inl 2, .ref g), (.inl 3, .ref g), (.inl 4, .ref g), (.inl 5, .ref g), (.inl 6, .ref g), (.inl 7, .ref g), (.inl 8, .ref g), (.inl 9, .ref g)])) a16 = some (.dK [(.inl 1, .ref g), (.inl 2, .ref g), (.inl 3, .ref g), (.inl 4, .ref g), (.inl 5, .ref g), (.inl 6, .ref g), (.inl 7, .ref g), (.inl 8, .ref g), (.inl 9, .ref g)]) := upd_same
    have m16 : H16 a16 = none := s17.free (sG.free n16)
    have n163 : a16 ≠ l3 := fun z => by
      have y := sG _ _ e17
      rw [← z, n16] at y
      cases y
    generalize (L2.upd G a16 (.dK [(.inl 1, .ref g), (.inl 2, .ref g), (.inl 3, .ref g), (.inl 4, .ref g), (.inl 5, .ref g), (.inl 6, .ref g), (.inl 7, .ref g), (.inl 8, .ref g), (.inl 9, .ref g)])) = H18 at s18 e18 ⊢
    refine ⟨l3, _, _, rfl, rfl, s18 _ _ e17, by show 15 < sizeLine; decide, ?_⟩
    have s19 : Same H16 (L2.upd H18 l3 (.lst ([.non, .int 5, .ref a3, .ref a4, .ref a5, .ref a6, .ref a7, .ref a8, .ref a9, .ref a10, .ref a11] ++ [.ref a12, .ref a13, .ref a14, .ref a15] ++ [.ref a16]))) := same_own n17 (s17.trans s18)
    have e19 : (L2.upd H18 l3 (.lst ([.non, .int 5, .ref a3, .ref a4, .ref a5, .ref a6, .ref a7, .ref a8, .ref a9, .ref a10, .ref a11] ++ [.ref a12, .ref a13, .ref a14, .ref a15] ++ [.ref a16]))) l3 = _ := upd_same
    have f19 : (L2.upd H18 l3 (.lst ([.non, .int 5, .ref a3, .ref a4, .ref a5, .ref a6, .ref a7, .ref a8, .ref a9, .ref a10, .ref a11] ++ [.ref a12, .ref a13, .ref a14, .ref a15] ++ [.ref a16]))) a16 = _ := (upd_ne n163).trans e18
    generalize (L2.upd H18 l3 (.lst ([.non, .int 5, .ref a3, .ref a4, .ref a5, .ref a6, .ref a7, .ref a8, .ref a9, .ref a10, .ref a11] ++ [.ref a12, .ref a13, .ref a14, .ref a15] ++ [.ref a16]))) = H19 at s19 e19 f19 ⊢
    have Y4 := Y3.grow s19
    have off16 := Y3.D.off m16
    have c16 := cut_at f19 off16.1 off16.2
    have g4 : Same (cut d l H1) (cut d l H19) := (But.of Y4.S).cut
    have ig := gis g4
    have Y5 := Y4.val (x := .ref a16) (.inl ⟨.dct [(K1 1, .tup (ones wd)), (K1 2, .tup (ones wd)), (K1 3, .tup (ones wd)), (K1 4, .tup (ones wd)), (K1 5, .tup (ones wd)), (K1 6, .tup (ones wd)), (K1 7, .tup (ones wd)), (K1 8, .tup (ones wd)), (K1 9, .tup (ones wd))],
      .dct (kvs := [(K1 1, .ref g), (K1 2, .ref g), (K1 3, .ref g), (K1 4, .ref g), (K1 5, .ref g), (K1 6, .ref g), (K1 7, .ref g), (K1 8, .ref g), (K1 9, .ref g)]) (by show 9 ≤ 900; decide) ⟨_, .inl c16, rfl⟩ (.cons trivial ig (.cons trivial ig (.cons trivial ig (.cons trivial ig (.cons trivial ig (.cons trivial ig (.cons trivial ig (.cons trivial ig (.cons trivial ig .nil))))))))), nf_of c16 (fun _ _ z => by cases z), odd_many (by show 8 < 9; decide)⟩)
    have ss : Same H H19 := s1.trans Y4.S
    refine ⟨d, l, c, a, g, L, l3, _, wd, _, _, _, _, _, rfl, Y5.D, hT.ext ss, g4 _ _ cg, hL.same (But.of ss).cut, ok, l8, e19, (Y3.D.off n17).2, by show 0 < 16; decide, by show 16 ≤ 1000; decide, Y5.A, fun H' D' T' B' => q H' D' T' ((But.of ss).n.trans B')⟩
end
end Kn
-- part TSplit
set_option maxHeartbeats 4000000
/-! A dict of rows, at one seat. -/
namespace Kn
open PySem PySem.Spec PyProof.Rows L2 Err
theorem putK_pos {p : Key × V} {r : List (Key × V)} {k : Key} {y : V} (e : p.1 = k) (n : k ∉ r.map (·.1)) : putK (p :: r) k y = (k, y) :: r := by
  unfold putK
  have h : ((p :: r).any fun kv => decide (kv.1 = k)) = true := by
    rw [List.any_cons, decide_eq_true e]
    rfl
  rw [h, if_pos rfl, List.map_cons, if_pos e]
  have z : (r.map fun kv => if kv.1 = k then (kv.1, y) else kv) = r := by
    refine (List.map_congr_left fun q hq => ?_).trans (List.map_id r)
    rw [if_neg (fun z => n (List.mem_map.mpr ⟨q, hq, z⟩))]
    rfl
  rw [z, e]
theorem putK_neg {p : Key × V} {r : List (Key × V)} {k : Key} {y : V} (e : ¬ p.1 = k) : putK (p :: r) k y = p :: putK r k y := by
  unfold putK
  rw [List.any_cons, decide_eq_false e, Bool.false_or]
  split
  · rw [List.map_cons, if_neg e]
  · rfl
theorem KvI.append {H : Hp} {kA kB : List (Key × V)} {A B : Tps} (hA : KvI H kA A) (hB : KvI H kB B) : KvI H (kA ++ kB) (A ++ B) := by
  induction hA with
  | nil => exact hB
  | cons r _ ih => exact .cons r ih
theorem kv_split {H : Hp} {s : Int} {v : V} {ks : List (Key × V)} {L : Tps} (h : KvI H ks L) (nd : (ks.map (·.1)).Nodup) (e : valV ks (.inl s) = some v) :
    ∃ A b B kA kB, L = A ++ (s, b) :: B ∧ KvI H kA A ∧ KvI H kB B ∧ Row H v b ∧ dropK ks (.inl s) = kA ++ kB ∧ ∀ y, putK ks (.inl s) y = kA ++ (.inl s, y) :: kB := by
  induction h with
  | nil => cases e
  | @cons x v0 ns ks L r t ih =>
    rw [List.map_cons, List.nodup_cons] at nd
    by_cases c : x = s
    · subst c
      rw [valV_pos rfl] at e
      obtain rfl := Option.some.inj e
      exact ⟨[], ns, L, [], ks, rfl, .nil, t, r, by rw [dropK_pos rfl, dropK_no nd.1]; rfl, fun y => by rw [putK_pos rfl nd.1]; rfl⟩
    · have c2 : ¬ (Sum.inl x : Key) = .inl s := fun z => c (Sum.inl.inj z)
      rw [valV_neg c2] at e
      obtain ⟨A, b, B, kA, kB, rfl, hA, hB, hr, d, p⟩ := ih nd.2 e
      exact ⟨(x, ns) :: A, b, B, (.inl x, v0) :: kA, kB, rfl, .cons r hA, hB, hr, by rw [dropK_neg c2, d]; rfl, fun y => by rw [putK_neg c2, p y]; rfl⟩
theorem kv_none {H : Hp} {s : Int} {ks : List (Key × V)} {L : Tps} (h : KvI H ks L) (e : valV ks (.inl s) = none) : s ∉ L.map (·.1) := fun z => by
  refine valV_not e ?_
  rw [h.keys]
  exact List.mem_map_of_mem z
theorem mergeK_nodup : ∀ {kvs acc : List (Key × V)}, ((acc ++ kvs).map (·.1)).Nodup → mergeK acc kvs = acc ++ kvs
  | [], acc, _ => by rw [List.append_nil]; rfl
  | p :: r, acc, h => by
    have e : putK acc p.1 p.2 = acc ++ [p] := by
      refine putK_new _ ?_
      cases z : valV acc p.1 with
      | none => rfl
      | some v =>
        have y := valV_in z
        rw [List.map_append, List.map_cons] at h
        exact absurd rfl ((List.nodup_append.mp h).2.2 _ y _ (List.mem_cons_self ..))
    show mergeK (putK acc p.1 p.2) r = _
    rw [e, mergeK_nodup (by rw [List.append_assoc]; exact h), List.append_assoc]
    rfl
end Kn
-- part TLawP
set_option maxHeartbeats 8000000
/-! The law: what it needs, its places. -/
namespace Kn
open PySem PySem.Spec PyProof.Rows L2 Err LamX HLam
abbrev sLaw : Stmt := topS 45
abbrev NLaw66 : List Str := ["_law_script", "_law_draw", "_law_turn", "_law_width", "_law_tuples_here", "_law_count", "_law_due", "_law_shown", "_law_seat", "_law_fresh", "_law_before", "_law_later", "_law_found", "_law_index", "_law_k"]
theorem scLaw66 : FnScope NLaw66 ["_law_script"] (defScope sLaw) := ⟨rfl, rfl, rfl, by decide +kernel, rfl, by decide +kernel, by decide +kernel⟩
abbrev XL66 (P : Program) (w : World) (K : PySem.W.Frag) (mg : Str → Option Value) (base : Heap) (f : Addr) (cdv : Value) (A : Around) (outer : List Env) (s : Shared) (H : Hp) (E : XK) : Cx := (cxOf CX0 P w K mg base NLaw66 "law" (defScope sLaw) f cdv A outer s H E).nox
def forOf : Stmt → List Stmt
  | .For _ _ b _ _ => b
  | _ => []
abbrev lawFor : Stmt := (defBody sLaw).getD 1 (.Pass ⟨0, 0, 0, 0⟩)
abbrev lawTail (n : Nat) : List Stmt := (forOf lawFor).drop n
/-- a def that is there -/
def Dfx (P : Program) (w : World) (K : PySem.W.Frag) (mg : Str → Option Value) (base : Heap) (CX : CXT) (k : Nat) (x : Str) (ps : List Str) (sp : Sp) : Prop := ∃ (f : Addr) (fd : FuncData), FnOk P w K mg base CX k f fd ps sp ∧ PySem.W.keepIn K (.ref f) = true ∧ Binds K fd ps [] ∧ mg x = some (.ref f)
/-- a def that is there, its keywords in the other order too -/
def DfK (P : Program) (w : World) (K : PySem.W.Frag) (mg : Str → Option Value) (base : Heap) (CX : CXT) (k : Nat) (x : Str) (ps : List Str) (sp : Sp) : Prop := ∃ (f : Addr) (fd : FuncData), FnOk P w K mg base CX k f fd ps sp ∧ PySem.W.keepIn K (.ref f) = true ∧ Binds K fd ps [] ∧ mg x = some (.ref f) ∧
  KBn K fd ps 0 ps.reverse (fun us ws => us ++ ws.reverse) (fun vs zs => vs ++ zs.reverse)
structure LE66 (P : Program) (w : World) (K : PySem.W.Frag) (mg : Str → Option Value) (base : Heap) (T : List (Addr × Str)) (CT CC CK CE : Addr) : Prop where
  begun : Dfx P w K mg base CX0 1 "_law_begun" ["_law_script"] (spBegun K)
  take : Dfx P w K mg base CX0 2 "_law_take" ["_law_draw", "_law_amount"] spTake
  pick : Dfx P w K mg base CX0 3 "_law_pick" ["_law_draw", "_law_some"] spPick
  num : Dfx P w K mg base CX0 4 "_law_number" ["_law_draw"] spLNum
  tups : Dfx P w K mg base CX0 5 "_law_tuples" ["_law_draw", "_law_most", "_law_width"] spLTup
  chk : Dfx P w K mg base CX0 2 "_law_check" ["_law_tuples_here", "_law_index"] spLChk
  of : DfK P w K mg base (L2.CX P w) 7 "checks_of" ["tuples", "count"] (spOr (spOf CT CC) (spOf2 P w CT))
  aft : DfK P w K mg base (L2.CX P w) 5 "after_change" ["checks", "seat", "before", "later"] (spAfter CK CE CT)
  ref : Dfx P w K mg base CX0 11 "_law_refused_right" ["_law_draw", "_law_tuples_here", "_law_width"] (spRef T)
  fr : ∀ x : Str, x ∈ (["range", "min", "len", "list", "tuple", "dict", "repr"] : List Str) → mg x = none
/-- between turns -/
def LInv (T : List (Addr × Str)) (d l c : Addr) (σ : L2.St) (H : Hp) : Prop := ∃ y0 y2 y3 y4 y5 y6 y7 y8 y9 y10 y11 y12 y13 y14, σ = [y0, some (.ref d), y2, y3, y4, y5, y6, y7, y8, y9, y10, y11, y12, y13, y14] ∧ Drw H d l c ∧ Tabs T H
abbrev chks (wd n : Nat) (L : Tps) : List (List Int) := (List.range n).map fun k => checkL wd k L
theorem RowsL.len {H : Hp} {vs : List V} {ls : List (List Int)} (h : RowsL H vs ls) : vs.length = ls.length := h.1
theorem chks_len {wd n : Nat} {L : Tps} (ok : TOk L wd) : ∀ r ∈ chks wd n L, r.length = wd := fun r hr => by
  obtain ⟨k, _, rfl⟩ := List.mem_map.mp hr
  exact checkL_len ok.ww
structure LF (T : List (Addr × Str)) (d l c : Addr) (H : Hp) (tu du : Addr) (L : Tps) (wd n : Nat) : Prop where
  D : Drw H d l c
  T : Tabs T H
  tu : TupD (cut d l H) tu L
  ok : TOk L wd
  l8 : L.length ≤ 8
  sm : ∀ p ∈ L, Sml p.2
  n4 : n ≤ 4
  du : ∃ cs, cut d l H du = some (.lst cs) ∧ RowsL (cut d l H) cs (chks wd n L)
theorem LF.but {T : List (Addr × Str)} {d l c : Addr} {H H' : Hp} {tu du : Addr} {L : Tps} {wd n : Nat} (z : LF T d l c H tu du L wd n) (D' : Drw H' d l c) (T' : Tabs T H') (B : ButN d l H H') : LF T d l c H' tu du L wd n := by
  obtain ⟨cs, e, r⟩ := z.du
  exact ⟨D', T', z.tu.same B.cut, z.ok, z.l8, z.sm, z.n4, cs, B.cut _ _ e, r.same B.cut⟩
theorem LF.b {T : List (Addr × Str)} {d l c : Addr} {H H' : Hp} {tu du : Addr} {L : Tps} {wd n : Nat} (z : LF T d l c H tu du L wd n) (D' : Drw H' d l c) (B : But d l H H') : LF T d l c H' tu du L wd n := z.but D' (tabs_but z.T z.D B) B.n
theorem LF.same {T : List (Addr × Str)} {d l c : Addr} {H H' : Hp} {tu du : Addr} {L : Tps} {wd n : Nat} (z : LF T d l c H tu du L wd n) (s : Same H H') : LF T d l c H' tu du L wd n := z.b (z.D.same s) (But.of s)
/-- a turn begins -/
def P0 (T : List (Addr × Str)) : TS := fun D σ H => ∃ d l c, LInv T d l c σ H ∧ ∀ σ' H', LInv T d l c σ' H' → D.nx σ' H'
/-- the checks are right -/
def P4 (T : List (Addr × Str)) : TS := fun D σ H => ∃ d l c tu du L, ∃ wd n : Nat, ∃ y0 y2 y8 y9 y10 y11 y12 y13 y14, σ = [y0, some (.ref d), y2, some (.int wd), some (.ref tu), some (.int n), some (.ref du), some (.str (tupsD L).shown), y8, y9, y10, y11, y12, y13, y14] ∧ LF T d l c H tu du L wd n ∧ ∀ σ' H', LInv T d l c σ' H' → D.nx σ' H'
/-- a change has been made -/
def P8 (T : List (Addr × Str)) : TS := fun D σ H => ∃ d l c tu du fr L L' s ob ol bv lv, ∃ wd n : Nat, ∃ y0 y2 y12 y13 y14, σ = [y0, some (.ref d), y2, some (.int wd), some (.ref tu), some (.int n), some (.ref du), some (.str (tupsD L).shown), some (.int s), some (.ref fr), some bv, some lv, y12, y13, y14] ∧
  LF T d l c H tu du L wd n ∧ 1 ≤ s ∧ s ≤ 9 ∧ TupD (cut d l H) fr L' ∧ TOk L' wd ∧ Chg L L' s ob ol ∧ OptRow (cut d l H) bv ob ∧ OptRow (cut d l H) lv ol ∧ (∀ r, ob = some r → r.length = wd) ∧ (∀ r, ol = some r → r.length = wd) ∧ ∀ σ' H', LInv T d l c σ' H' → D.nx σ' H'
theorem Row.cut {d l c : Addr} {H : Hp} {v : V} {ns : List Int} (D : Drw H d l c) (h : Row H v ns) : Row (cut d l H) v ns := by
  obtain ⟨a, e, r, n⟩ := h
  obtain ⟨⟨r0, t0, hd⟩, ⟨ns0, hl⟩, _, _⟩ := D
  refine ⟨a, e, ?_, n⟩
  rcases r with r | ⟨o, r⟩
  · exact .inl (cut_at r (fun z => by rw [z, hd] at r; cases r) (fun z => by rw [z, hl] at r; cases r))
  · exact .inr ⟨o, cut_at r (fun z => by rw [z, hd] at r; cases r) (fun z => by rw [z, hl] at r; cases r)⟩
theorem KvI.cut {d l c : Addr} {H : Hp} (D : Drw H d l c) {ks : List (Key × V)} {L : Tps} (h : KvI H ks L) : KvI (cut d l H) ks L := by
  induction h with
  | nil => exact .nil
  | cons r _ ih => exact .cons (r.cut D) ih
theorem TupD.cut {d l c a : Addr} {H : Hp} {L : Tps} (D : Drw H d l c) (h : TupD H a L) (n1 : a ≠ d) (n2 : a ≠ l) : TupD (cut d l H) a L := by
  obtain ⟨ks, e, hk⟩ := h
  exact ⟨ks, cut_at e n1 n2, hk.cut D⟩
theorem RowsL.upd {H : Hp} {a : Addr} {o : HO} (n : ∀ xs, H a ≠ some (.tup xs) ∧ ∀ ob, H a ≠ some (.frz ob (.tup xs))) {vs : List V} {ls : List (List Int)} (h : RowsL H vs ls) : RowsL (L2.upd H a o) vs ls :=
  ⟨h.1, fun i v e => by
    obtain ⟨ns, e1, r⟩ := h.2 i v e
    exact ⟨ns, e1, r.upd n⟩⟩
theorem no_tup_lst {H : Hp} {a : Addr} {ks : List V} (e : H a = some (.lst ks)) : ∀ xs, H a ≠ some (.tup xs) ∧ ∀ ob, H a ≠ some (.frz ob (.tup xs)) := fun xs => ⟨(fun z => by rw [e] at z; cases z), (fun ob z => by rw [e] at z; cases z)⟩
/-- [_law_check(tuples, k) for k in range(n)] -/
theorem due_lc {σ : L2.St} {H : Hp} {Q : VK} {i n wd : Nat} {tu : Addr} {L : Tps} (h5 : σ[5]? = some (some (.int n))) (hi : ∀ k : Int, ((wipe σ [13]).set 13 (some (.int k)))[i]? = some (some (.ref tu))) (h13 : ∀ k : Int, ((wipe σ [13]).set 13 (some (.int k)))[13]? = some (some (.int k))) (hw : ∀ k : Int, wipe ((wipe σ [13]).set 13 (some (.int k))) [13] = wipe σ [13])
    (t : TupD H tu L) (ok : TOk L wd) (n4 : n ≤ 4) (q : ∀ p cs H', Same H H' → H p = none → H' p = some (.lst cs) → RowsL H' cs (chks wd n L) → Q (.ref p) H') :
    tLc (iRng1 (tCons (tVar 5) tNil)) (gName 13) tYes (tCall spLChk [] E0 (tCons (tVar i) (tCons (tVar 13) tNil))) [13] σ H Q := by
  refine ⟨_, h5, n, rfl, by omega, by omega, fun Dl nDl => lc_it (D := Dl) walk_range (fun k H7 => ∃ cs, H7 Dl = some (.lst cs) ∧ RowsL H7 cs ((List.range k).map fun k => checkL wd k L) ∧ Same H H7) ⟨[], upd_same, ⟨rfl, fun i v e => by cases e⟩, same_new nDl⟩ (fun _ _ _ _ => trivial) ?_ ?_⟩
  · rintro k x H7 H8 hk2 ⟨cs, ec, rc, s7⟩ ⟨rfl, rfl⟩
    have hk2 : k < n := hk2
    refine ⟨hw _, ?_⟩
    dsimp only [tYes]
    rw [if_pos rfl]
    have lc := rc.1
    rw [List.length_map, List.length_range] at lc
    refine ⟨_, hi _, _, h13 _, tu, k, L, wd, by rw [Int.zero_add]; rfl, t.same s7, ok, by omega, fun v H9 s9 rv => ⟨cs, s9 _ _ ec, small1000 (by omega), cs ++ [v], upd_same, ?_, same_own nDl (s7.trans s9)⟩⟩
    have z := (rc.same s9).snoc rv
    rw [List.range_succ, List.map_append]
    exact z.upd (no_tup_lst (s9 _ _ ec))
  · rintro H7 ⟨cs, ec, rc, s7⟩
    exact q Dl cs H7 s7 nDl ec rc
/-- [_law_number(draw) for k in range(width)] -/
theorem num_lc {σ : L2.St} {H : Hp} {Q : VK} {wd : Nat} {d l c : Addr} (h3 : σ[3]? = some (some (.int wd))) (h1 : ∀ k : Int, ((wipe σ [14]).set 14 (some (.int k)))[1]? = some (some (.ref d))) (hw : ∀ k : Int, wipe ((wipe σ [14]).set 14 (some (.int k))) [14] = wipe σ [14])
    (D : Drw H d l c) (w45 : wd ≤ 45) (q : ∀ p (as : List Int) H', as.length = wd → Drw H' d l c → But d l H H' → H p = none → H' p = some (.lst (as.map V.int)) → Q (.ref p) H') :
    tLc (iRng1 (tCons (tVar 3) tNil)) (gName 14) tYes (tCall spLNum [] E0 (tCons (tVar 1) tNil)) [14] σ H Q := by
  refine ⟨_, h3, wd, rfl, by omega, by omega, fun Dl nDl => lc_it (D := Dl) walk_range (fun k H7 => ∃ as : List Int, H7 Dl = some (.lst (as.map V.int)) ∧ as.length = k ∧ Drw H7 d l c ∧ But d l H H7) ⟨[], upd_same, rfl, D.new nDl, .new nDl⟩ (fun _ _ _ _ => trivial) ?_ ?_⟩
  · rintro k x H7 H8 hk2 ⟨as, ea, la, D7, B7⟩ ⟨rfl, rfl⟩
    have hk2 : k < wd := hk2
    refine ⟨hw _, ?_⟩
    dsimp only [tYes]
    rw [if_pos rfl]
    have offD := D.off nDl
    refine ⟨_, h1 _, d, l, c, rfl, D7, fun v H9 hv D9 B9 => ⟨_, B9 _ _ ea offD.1 offD.2, by rw [List.length_map]; exact small1000 (by omega), as ++ [v], ?_, by rw [List.length_append, la]; rfl, D9.own D nDl, (B7.trans B9).own nDl⟩⟩
    rw [upd_same, List.map_append]
    rfl
  · rintro H7 ⟨as, ea, la, D7, B7⟩
    exact q Dl as H7 la D7 B7 nDl ea
end Kn
-- part TLawA
set_option maxHeartbeats 8000000
/-! The law, the checks. -/
namespace Kn
open PySem PySem.Spec PyProof.Rows L2 Err LamX HLam
section
variable {P : Program} {w : World} {K : PySem.W.Frag} {mg : Str → Option Value} {base : Heap} {T : List (Addr × Str)} {CT CC CK CE : Addr} {f : Addr} {cdv : Value} {A : Around} {outer : List Env} {s0 : Shared} {H00 : Hp} {E00 : XK}
theorem law_a (L0 : LE66 P w K mg base T CT CC CK CE) (hr : Room 11 (XL66 P w K mg base f cdv A outer s0 H00 E00).A) (hgd : (XL66 P w K mg base f cdv A outer s0 H00 E00).A.guards = some []) (tok : PSs (XL66 P w K mg base f cdv A outer s0 H00 E00) (lawTail 4) (P4 T)) : PSs (XL66 P w K mg base f cdv A outer s0 H00 E00) (lawTail 0) (P0 T) := by
  have S := scLaw66
  have hu := hu_of hr
  have hr1 := hr.mono (show 1 ≤ 11 by decide)
  have hr2 := hr.mono (show 2 ≤ 11 by decide)
  have hr3 := hr.mono (show 3 ≤ 11 by decide)
  have hr4 := hr.mono (show 4 ≤ 11 by decide)
  have hr5 := hr.mono (show 5 ≤ 11 by decide)
  have hr7 := hr.mono (show 7 ≤ 11 by decide)
  have hr11 := hr
  obtain ⟨fT, fdT, GT, kT, bT, gT⟩ := L0.take
  obtain ⟨fP, fdP, GP, kP, bP, gP⟩ := L0.pick
  obtain ⟨fNu, fdNu, GNu, kNu, bNu, gNu⟩ := L0.num
  obtain ⟨fTu, fdTu, GTu, kTu, bTu, gTu⟩ := L0.tups
  obtain ⟨fCk, fdCk, GCk, kCk, bCk, gCk⟩ := L0.chk
  obtain ⟨fO, fdO, GO, kO, bO, gO, kbO⟩ := L0.of
  obtain ⟨fA, fdA, GA, kA, bA, gA, kbA⟩ := L0.aft
  obtain ⟨fRf, fdRf, GRf, kRf, bRf, gRf⟩ := L0.ref
  have mr := L0.fr "range" (by decide)
  have mm := L0.fr "min" (by decide)
  have mn := L0.fr "len" (by decide)
  have ml := L0.fr "list" (by decide)
  have mt := L0.fr "tuple" (by decide)
  have md := L0.fr "dict" (by decide)
  have mre := L0.fr "repr" (by decide)
  refine PSs.pre (P0 T) (pss_cons (ps_set (i := 3) S.nd rfl (.inl rfl) (pe_call GP hr3 (by rfl) gP kP bP .nil pass0 (pa_cons (pv 1) (pa_cons (pe_lst (pa_cons (pe_call GT hr2 (by rfl) gT kT bT .nil pass0 (pa_cons (pv 1) (pa_cons pe_int pa_nil))) (pa_cons (pe_call GT hr2 (by rfl) gT kT bT .nil pass0 (pa_cons (pv 1) (pa_cons pe_int pa_nil))) (pa_cons pe_int pa_nil)))) pa_nil))))
      (pss_cons (ps_asg (pe_tup (pa_cons (pe_call GTu hr5 (by rfl) gTu kTu bTu .nil pass0 (pa_cons (pv 1) (pa_cons pe_int (pa_cons (pv 3) pa_nil)))) (pa_cons (pe_call GT hr2 (by rfl) gT kT bT .nil pass0 (pa_cons (pv 1) (pa_cons pe_int pa_nil))) pa_nil))) (pg_tup rfl (pgs_cons (pg_name (i := 4) S.nd rfl (.inr rfl)) (pgs_cons (pg_name (i := 5) S.nd rfl (.inl rfl)) pgs_nil))))
      (pss_cons (ps_par (i := 6) (j := 7) rfl S.nd rfl rfl (by decide) rfl rfl (pa_cons (pe_lc (own := [("_law_index", 13)]) (g := gName 13) rfl S.nd (pi_range1 (by rfl) mr (pa_cons (pv 5) pa_nil)) (blkOk_by (N := NLaw66) (sc := defScope sLaw) (by decide +kernel)) (fun _ _ _ _ _ => (pg_name (i := 13) S.nd rfl (.inl rfl))) (fun _ _ _ _ _ => pts_nil) (fun _ _ _ _ _ => (pe_call GCk hr2 (by rfl) gCk kCk bCk .nil pass0 (pa_cons (pv 4) (pa_cons (pv 13) pa_nil))))) (pa_cons (pe_callB (show CallR _ (.builtin "repr") (Rp.rRp K) from Rp.call_rp hgd hr.units) (by rfl) mre PyProof.Rows.boot_repr (pa_cons (pv 4) pa_nil)) pa_nil)) (by rfl) (by rfl))
      (pss_cons (ps_if (PW.pt (pw_or (pt_cmpR (show OpR _ (compareOp .NotEq) (rNeD K) from op_neD hr1.units) (pe_call GO hr7 (by rfl) gO kO bO .nil (passes_call L2.takes0 fun _ _ _ _ h => h) (pa_cons (pv 4) (pa_cons (pv 5) pa_nil))) (pv 6) (nomark _)) (pw_or1 (pt_cmpR (show OpR _ (compareOp .NotEq) (rNeD K) from op_neD hr1.units) (pe_callN0 GO hr7 (by rfl) gO kO kbO (passes_call L2.takes0 fun _ _ _ _ h => h) (pk_cons (pv 5) (pk_cons (pv 4) pk_nil))) (pv 6) (nomark _))))) (pss_one (ps_ret pe_bl)) pss_nil)
      tok)))) ?_
  rintro D0 σ H ⟨d, l, c, ⟨y0, y2, y3, y4, y5, y6, y7, y8, y9, y10, y11, y12, y13, y14, rfl, D, hT⟩, q⟩
  -- how wide
  refine ⟨_, rfl, _, rfl, d, l, c, 6, rfl, D, by decide, by decide, fun k1 H1 a1 b1 D1 B1 => ⟨_, rfl, d, l, c, 6, rfl, D1, by decide, by decide, fun k2 H2 a2 b2 D2 B2 => ⟨by show 3 ≤ sizeLine; decide, fun e ne => pick_new D2 (by show 0 < 3; decide) (by show 3 ≤ 1000; decide) (fun x H3 hx D3 B3 => ?_) ne⟩⟩⟩
  have B03 : But d l H H3 := (B1.trans B2).trans B3
  obtain ⟨wd, rfl, w45⟩ : ∃ wd : Nat, x = .int wd ∧ wd ≤ 45 := by
    simp only [List.mem_cons, List.not_mem_nil, or_false] at hx
    rcases hx with z | z | z
    · obtain ⟨j, rfl⟩ := Int.eq_ofNat_of_zero_le a1
      exact ⟨j, z, by omega⟩
    · obtain ⟨j, rfl⟩ := Int.eq_ofNat_of_zero_le a2
      exact ⟨j, z, by omega⟩
    · exact ⟨45, z, by decide⟩
  have T3 := tabs_but hT D B03
  clear B1 B2 B3 hx ne B03 D1 D2 a1 a2 b1 b2 hT D
  -- the tuples
  refine ⟨_, rfl, _, rfl, d, l, c, wd, rfl, D3, w45, fun tu L H4 D4 B4 ntu h4 ok l8 sm => ⟨_, rfl, d, l, c, 5, rfl, D4, by decide, by decide, fun k H5 a5 b5 D5 B5 => ⟨by show 2 ≤ sizeLine; decide, fun tp ntp => ⟨tp, [_, _], rfl, SqT.of upd_same, rfl, _, _, rfl, _, _, rfl, rfl, ?_⟩⟩⟩⟩
  obtain ⟨n, rfl⟩ := Int.eq_ofNat_of_zero_le a5
  have n4 : n ≤ 4 := by omega
  have off := D3.off ntu
  have t5 : TupD (cut d l H5) tu L := (h4.cut D4 off.1 off.2).same B5.cut
  have s6 : Same H5 (L2.upd H5 tp (.tup [.ref tu, .int n])) := same_new ntp
  generalize L2.upd H5 tp (.tup [.ref tu, .int n]) = H6 at s6 ⊢
  have D6 := D5.same s6
  have T6 := tabs_but T3 D3 ((B4.trans B5).trans (But.of s6))
  have t6 := t5.same (But.of s6).cut
  clear s6 t5 B4 B5 D3 D4 D5 ntp ntu h4 off a5 b5 T3
  -- what is due
  dsimp only [tSeq, tPar, tCons, List.set]
  refine due_lc (σ := [y0, some (.ref d), y2, some (.int wd), some (.ref tu), some (.int n), y6, y7, y8, y9, y10, y11, y12, y13, y14]) (i := 4) rfl (fun _ => rfl) (fun _ => rfl) (fun _ => rfl) (t6.same cut_le) ok n4 fun du cs H7 s7 ndu edu rc => ?_
  have t7 := t6.same (But.of s7).cut
  have offd := D6.off ndu
  have sho : ∀ p ∈ L, p.1.natAbs < 10 ^ 21 ∧ p.2.length ≤ 45 ∧ Sml p.2 := fun p hp => by
    have z := ok.st p hp
    have e : (10 : Nat) ^ 21 = 1000000000000000000000 := by decide
    exact ⟨by omega, by rw [ok.ww p hp]; exact w45, sm p hp⟩
  obtain ⟨w1, w2, w3⟩ := tups_show sho l8
  refine ⟨_, rfl, .ref tu, tupsD L, rfl, (tups_ty (t7.same cut_le)).tx, w1, w2, w3, _, _, rfl, ?_⟩
  have F : LF T d l c H7 tu du L wd n := ⟨D6.same s7, T6.ext s7, t7, ok, l8, sm, n4, cs, cut_at edu offd.1 offd.2, ⟨rc.1, fun i v e => by
    obtain ⟨ns, e1, r⟩ := rc.2 i v e
    exact ⟨ns, e1, r.cut (D6.same s7)⟩⟩⟩
  clear t7 t6 s7 ndu offd rc edu D6 T6
  -- checks_of
  have ans : ∀ {G : Hp} {R : VK} {E : XK}, LF T d l c G tu du L wd n → (∀ p cs G', LF T d l c G' tu du L wd n → G' p = some (.lst cs) → RowsL G' cs (chks wd n L) → R (.ref p) G') → spOr (spOf CT CC) (spOf2 P w CT) [.ref tu, .int n] G R E := fun {G R E} z k => by
    have tg := z.tu.same cut_le
    obtain ⟨ks, ek, _⟩ := id tg
    exact .inl ⟨.ref tu, .int n, tupsWd L, .int n, rfl, tups_is tg ok, nf_of ek (fun _ _ z => by cases z), .int _, .inr (.inr ⟨tups_good ok l8, tu, n, L, wd, rfl, rfl, rfl, tg, ok, n4, fun p cs G' s np e r => k p cs G' (z.same s) e r⟩)⟩
  have duq : ∀ {G : Hp}, LF T d l c G tu du L wd n → ∃ cs, G du = some (.lst cs) ∧ RowsL G cs (chks wd n L) := fun z => by
    obtain ⟨cs, e, r⟩ := z.du
    exact ⟨cs, cut_le _ _ e, r.same cut_le⟩
  refine ⟨_, rfl, _, rfl, ans F fun p cs8 H8 F8 e8 r8 => ?_⟩
  obtain ⟨cq, eq, rq⟩ := duq F8
  refine ⟨_, rfl, rows_ne e8 r8 eq rq ⟨false, rfl, iteF ⟨_, rfl, _, rfl, rfl, rfl, ans F8 fun p2 cs9 H9 F9 e9 r9 => ?_⟩⟩⟩
  obtain ⟨cq2, eq2, rq2⟩ := duq F9
  refine ⟨_, rfl, rows_ne e9 r9 eq2 rq2 ⟨false, rfl, iteF ?_⟩⟩
  exact ⟨d, l, c, tu, du, L, wd, n, _, _, _, _, _, _, _, _, _, rfl, F9, q⟩
end
end Kn
-- part TLawB
set_option maxHeartbeats 8000000
/-! The law, the change. -/
namespace Kn
open PySem PySem.Spec PyProof.Rows L2 Err LamX HLam
section
variable {P : Program} {w : World} {K : PySem.W.Frag} {mg : Str → Option Value} {base : Heap} {T : List (Addr × Str)} {CT CC CK CE : Addr} {f : Addr} {cdv : Value} {A : Around} {outer : List Env} {s0 : Shared} {H00 : Hp} {E00 : XK}
theorem law_b (L0 : LE66 P w K mg base T CT CC CK CE) (hr : Room 11 (XL66 P w K mg base f cdv A outer s0 H00 E00).A) (hgd : (XL66 P w K mg base f cdv A outer s0 H00 E00).A.guards = some []) (tok : PSs (XL66 P w K mg base f cdv A outer s0 H00 E00) (lawTail 8) (P8 T)) : PSs (XL66 P w K mg base f cdv A outer s0 H00 E00) (lawTail 4) (P4 T) := by
  have S := scLaw66
  have hu := hu_of hr
  have hr1 := hr.mono (show 1 ≤ 11 by decide)
  have hr2 := hr.mono (show 2 ≤ 11 by decide)
  have hr3 := hr.mono (show 3 ≤ 11 by decide)
  have hr4 := hr.mono (show 4 ≤ 11 by decide)
  have hr5 := hr.mono (show 5 ≤ 11 by decide)
  have hr7 := hr.mono (show 7 ≤ 11 by decide)
  have hr11 := hr
  obtain ⟨fT, fdT, GT, kT, bT, gT⟩ := L0.take
  obtain ⟨fP, fdP, GP, kP, bP, gP⟩ := L0.pick
  obtain ⟨fNu, fdNu, GNu, kNu, bNu, gNu⟩ := L0.num
  obtain ⟨fTu, fdTu, GTu, kTu, bTu, gTu⟩ := L0.tups
  obtain ⟨fCk, fdCk, GCk, kCk, bCk, gCk⟩ := L0.chk
  obtain ⟨fO, fdO, GO, kO, bO, gO, kbO⟩ := L0.of
  obtain ⟨fA, fdA, GA, kA, bA, gA, kbA⟩ := L0.aft
  obtain ⟨fRf, fdRf, GRf, kRf, bRf, gRf⟩ := L0.ref
  have mr := L0.fr "range" (by decide)
  have mm := L0.fr "min" (by decide)
  have mn := L0.fr "len" (by decide)
  have ml := L0.fr "list" (by decide)
  have mt := L0.fr "tuple" (by decide)
  have md := L0.fr "dict" (by decide)
  have mre := L0.fr "repr" (by decide)
  refine PSs.pre (P4 T) (pss_cons (ps_set (i := 8) S.nd rfl (.inl rfl) (pe_call GP hr3 (by rfl) gP kP bP .nil pass0 (pa_cons (pv 1) (pa_cons (pe_listRg (by rfl) (by rfl) ml (prg_2 (by rfl) mr pe_int pe_int)) pa_nil))))
      (pss_cons (ps_set (i := 9) S.nd rfl (.inr rfl) (pe_callTy (call_dictP rfl) (by rfl) md (by decide +kernel) (pa_cons (LiI.pe_listItems rfl (pv 4) (by rfl) ml (by decide +kernel)) pa_nil)))
      (pss_cons (ps_par (i := 10) (j := 11) rfl S.nd rfl rfl (by decide) rfl rfl (pa_cons (pe_dget2 hu (pv 9) (pv 8) pe_non ⟨rfl, rfl, rfl, rfl⟩) (pa_cons (pe_callTy (show CallR _ (.type "tuple") (rTupA K) from call_tuple_of) (by rfl) mt (by decide +kernel) (pa_cons (pe_lc (own := [("_law_k", 14)]) (g := gName 14) rfl S.nd (pi_range1 (by rfl) mr (pa_cons (pv 3) pa_nil)) (blkOk_by (N := NLaw66) (sc := defScope sLaw) (by decide +kernel)) (fun _ _ _ _ _ => (pg_name (i := 14) S.nd rfl (.inl rfl))) (fun _ _ _ _ _ => pts_nil) (fun _ _ _ _ _ => (pe_call GNu hr4 (by rfl) gNu kNu bNu .nil pass0 (pa_cons (pv 1) pa_nil)))) pa_nil)) pa_nil)) (by rfl) (by rfl))
      (pss_cons (ps_if (PW.pt (pw_and (pt_cmpR op_notN (pv 10) pe_non (nomark _)) (pw_and (pt_cmpR op_gt (pe_callB call_lenD (by rfl) mn PySem.boot_len (pa_cons (pv 9) pa_nil)) pe_int (nomark _)) (pw_and1 (pt_cmpR op_eq (pe_call GT hr2 (by rfl) gT kT bT .nil pass0 (pa_cons (pv 1) (pa_cons pe_int pa_nil))) pe_int (nomark _)))))) (pss_cons (ps_set (i := 11) S.nd rfl (.inl rfl) pe_non)
          (pss_one (ps_expr (pe_dpop1 (pv 9) (pv 8) ⟨rfl, rfl, rfl, rfl⟩)))) (pss_one (ps_if (PW.pt (pw_or (pt_cmpR op_lt (pe_callB call_lenD (by rfl) mn PySem.boot_len (pa_cons (pv 9) pa_nil)) pe_int (nomark _)) (pw_or1 (pt_cmpR op_notN (pv 10) pe_non (nomark _))))) (pss_one (ps_dput hu (pv 9) (pv 8) (pv 11) rfl)) (pss_one (ps_set (i := 11) S.nd rfl (.inl rfl) pe_non)))))
      tok)))) ?_
  rintro D0 σ H ⟨d, l, c, tu, du, L, wd, n, y0, y2, y8, y9, y10, y11, y12, y13, y14, rfl, F, q⟩
  have w45 := F.ok.w45
  refine ⟨_, rfl, 1, 10, rfl, rfl, RgOk.of_le (by decide) (by decide) (by decide) (by decide), fun s0 ns0 => pick_new F.D (by rw [rgV_length]; decide) (by rw [rgV_length]; decide) (fun x H1 hx D1 B1 => ?_) ns0⟩
  obtain ⟨s, rfl, s1, s9⟩ : ∃ s : Int, x = .int s ∧ 1 ≤ s ∧ s ≤ 9 := by
    unfold rgV at hx
    obtain ⟨i, hi, rfl⟩ := List.mem_map.mp hx
    have z := List.mem_range.mp hi
    have e : ((10 : Int) - 1).toNat = 9 := rfl
    rw [e] at z
    exact ⟨_, rfl, by omega, by omega⟩
  have F1 := F.b D1 B1
  clear F D1 B1 hx ns0
  -- a fresh dict of the same
  obtain ⟨ks, ek, hk1⟩ := F1.tu.same cut_le
  have hnd := hk1.nd F1.ok.nd
  refine ⟨_, rfl, tu, ks, rfl, ek, fun H2 p ts s2 np nts npts ep prs => ⟨p, ts, ks, rfl, SqL.of ep, pr_sq prs, fun fr nfr => ?_⟩⟩
  rw [mergeK_nodup (by rw [List.nil_append]; exact hnd), List.nil_append]
  have F2 := F1.same s2
  have hk2 := hk1.same s2
  have off := F2.D.off nfr
  have D3 : Drw (L2.upd H2 fr (.dK ks)) d l c := F2.D.new nfr
  have e3 : (L2.upd H2 fr (.dK ks)) fr = some (.dK ks) := upd_same
  have B3 : But d l H2 (L2.upd H2 fr (.dK ks)) := .new nfr
  generalize L2.upd H2 fr (.dK ks) = H3 at D3 e3 B3 ⊢
  clear F1 hk1 ek s2 np nts npts ep prs
  have lks : ks.length = L.length := hk2.len
  have l8 := F2.l8
  have n1 := F2.ok.n1
  -- what was there, what is to come
  refine ⟨_, rfl, fr, rfl, .inl ⟨ks, .inl e3⟩, _, rfl, _, DGet.k (k := .inl s) e3, ?_⟩
  dsimp only [tCB, tCons, List.set]
  refine num_lc (σ := [y0, some (.ref d), y2, some (.int wd), some (.ref tu), some (.int n), some (.ref du), some (.str (tupsD L).shown), some (.int s), some (.ref fr), y10, y11, y12, y13, y14]) rfl (fun _ => rfl) (fun _ => rfl) D3 w45 fun p as H4 las D4 B4 np ep => ⟨p, _, rfl, .inl ⟨SqL.of ep, fun t nt => ?_⟩⟩
  have D5 : Drw (L2.upd H4 t (.tup (as.map V.int))) d l c := D4.new nt
  have B5 : But d l H3 (L2.upd H4 t (.tup (as.map V.int))) := B4.trans (.new nt)
  have r5 : Row (L2.upd H4 t (.tup (as.map V.int))) (.ref t) as := ⟨t, rfl, .inl upd_same, by omega⟩
  generalize L2.upd H4 t (.tup (as.map V.int)) = H5 at D5 B5 r5 ⊢
  have e5 := B5 _ _ e3 off.1 off.2
  have B25 := B3.trans B5
  clear D4 B4 np ep nt B3 B5 D3 e3
  refine ⟨_, _, rfl, ?_⟩
  -- the change: what a place needs
  have fin : ∀ {G : Hp} {ks' : List (Key × V)} {L' : Tps} {ob ol : Option (List Int)} {bv lv : V}, Drw G d l c → But d l H2 G → G fr = some (.dK ks') → KvI G ks' L' → TOk L' wd → Chg L L' s ob ol → OptRow G bv ob → OptRow G lv ol → (∀ r, ob = some r → r.length = wd) → (∀ r, ol = some r → r.length = wd) →
      P8 T D0 [y0, some (.ref d), y2, some (.int wd), some (.ref tu), some (.int n), some (.ref du), some (.str (tupsD L).shown), some (.int s), some (.ref fr), some bv, some lv, y12, y13, y14] G := fun {G ks' L' ob ol bv lv} D' B' e' k' ok' ch hb hl lob lol =>
    have oc : ∀ {v : V} {o : Option (List Int)}, OptRow G v o → OptRow (cut d l G) v o := fun {v o} h => by
      cases o with
      | none => exact h
      | some ns => exact Row.cut D' h
    ⟨d, l, c, tu, du, fr, L, L', s, ob, ol, bv, lv, wd, n, _, _, _, _, _, rfl, F2.b D' B', s1, s9, ⟨ks', cut_at e' off.1 off.2, k'.cut D'⟩, ok', ch, oc hb, oc hl, lob, lol, q⟩
  have okw := F2.ok
  have dlt : ∀ {a b : Int} (h : a < b), V.bl (decide (a < b)) = .bl true := fun h => by rw [decide_eq_true h]
  have dnl : ∀ {a b : Int} (h : ¬ a < b), V.bl (decide (a < b)) = .bl false := fun h => by rw [decide_eq_false h]
  have big : ks.length < sizeLine := small1000 (by omega)
  cases hv : valV ks (.inl s) with
  | none =>
    have no := kv_none hk2 hv
    have hk5 := hk2.but F2.D B25
    refine ⟨_, rfl, rfl, false, rfl, iteF (iteF ⟨_, rfl, fr, ks, rfl, e5, _, _, rfl, rfl, ?_⟩)⟩
    by_cases lt : (ks.length : Int) < 8
    · refine ⟨true, dlt lt, iteT (iteT ⟨_, rfl, _, rfl, _, rfl, fr, _, rfl, DPut.k (k := .inl s) e5 big, ?_⟩)⟩
      rw [putK_new _ hv]
      have nt5 := no_tup_dk e5
      refine fin (ob := none) (ol := some as) (D5.own F2.D nfr) (B25.own nfr) upd_same ((hk5.snoc r5).upd nt5) ⟨by rw [List.length_append]; omega, by rw [List.length_append]; show L.length + 1 ≤ 9; omega, ?_, fun p hp => ?_, fun p hp => ?_, w45⟩ (chg_new L s as) rfl (Row.upd r5 nt5) (fun r z => by cases z) fun r z => by cases z; exact las
      · rw [List.map_append]
        exact List.nodup_append.mpr ⟨okw.nd, (by simp), fun x hx y hy z => no (by have e : y = s := List.mem_singleton.mp hy; rw [e] at z; rw [← z]; exact hx)⟩
      · rcases List.mem_append.mp hp with z | z
        · exact okw.st p z
        · rw [List.mem_singleton.mp z]
          exact ⟨s1, s9⟩
      · rcases List.mem_append.mp hp with z | z
        · exact okw.ww p z
        · rw [List.mem_singleton.mp z]
          exact las
    · exact ⟨false, dnl lt, iteF ⟨_, rfl, rfl, false, rfl, iteF (fin (ob := none) (ol := none) D5 B25 e5 hk5 okw (chg_none L s) rfl rfl (fun r z => by cases z) fun r z => by cases z)⟩⟩
  | some v =>
    obtain ⟨A, b, B, kA, kB, eL, hA, hB, hr, ed, ep⟩ := kv_split hk2 hnd hv
    have lb : b.length = wd := okw.ww (s, b) (by rw [eL]; exact List.mem_append_right _ (List.mem_cons_self ..))
    have vr : (!decide (v = V.non)) = true := by
      obtain ⟨a, rfl, _⟩ := hr
      rfl
    have put : ∀ {G : Hp}, Drw G d l c → But d l H2 G → G fr = some (.dK ks) → Row G (.ref t) as → P8 T D0 [y0, some (.ref d), y2, some (.int wd), some (.ref tu), some (.int n), some (.ref du), some (.str (tupsD L).shown), some (.int s), some (.ref fr), some v, some (.ref t), y12, y13, y14] (L2.upd G fr (.dK (putK ks (.inl s) (.ref t)))) := fun {G} DG BG eG rG => by
      have ntG := no_tup_dk eG
      rw [ep]
      refine fin (ob := some b) (ol := some as) (L' := A ++ (s, as) :: B) (DG.own F2.D nfr) (BG.own nfr) upd_same (((hA.but F2.D BG).append (.cons rG (hB.but F2.D BG))).upd ntG) ⟨?_, ?_, ?_, fun p hp => ?_, fun p hp => ?_, w45⟩ (eL ▸ chg_put A B s b as) (Row.upd (hr.but F2.D BG) ntG) (Row.upd rG ntG) (fun r z => by cases z; exact lb) fun r z => by cases z; exact las
      · have z := okw.n1
        rw [eL] at z
        rw [List.length_append, List.length_cons] at z ⊢
        exact z
      · have z := okw.n9
        rw [eL] at z
        rw [List.length_append, List.length_cons] at z ⊢
        exact z
      · have z := okw.nd
        rw [eL, List.map_append, List.map_cons] at z
        rw [List.map_append, List.map_cons]
        exact z
      · rcases List.mem_append.mp hp with z | z
        · exact okw.st p (by rw [eL]; exact List.mem_append_left _ z)
        · rcases List.mem_cons.mp z with z | z
          · rw [z]
            exact ⟨s1, s9⟩
          · exact okw.st p (by rw [eL]; exact List.mem_append_right _ (List.mem_cons_of_mem _ z))
      · rcases List.mem_append.mp hp with z | z
        · exact okw.ww p (by rw [eL]; exact List.mem_append_left _ z)
        · rcases List.mem_cons.mp z with z | z
          · rw [z]
            exact las
          · exact okw.ww p (by rw [eL]; exact List.mem_append_right _ (List.mem_cons_of_mem _ z))
    refine ⟨_, rfl, rfl, true, congrArg V.bl vr, iteT ⟨_, rfl, fr, ks, rfl, e5, _, _, rfl, rfl, ?_⟩⟩
    by_cases gt : (1 : Int) < (ks.length : Int)
    · refine ⟨true, dlt gt, iteT ⟨_, rfl, d, l, c, 3, rfl, D5, by decide, by decide, fun k H6 a6 b6 D6 B6 => ⟨rfl, decide (V.int k = V.int 0), rfl, ?_⟩⟩⟩
      have e6 := B6 _ _ e5 off.1 off.2
      have B26 := B25.trans B6
      by_cases kz : V.int k = V.int 0
      · rw [decide_eq_true kz]
        refine iteT ⟨_, rfl, fr, rfl, .inl ⟨ks, .inl e6⟩, _, rfl, ks, .inl s, _, e6, rfl, hv, ?_⟩
        have nt6 := no_tup_dk e6
        rw [ed]
        have lL : L.length = A.length + (B.length + 1) := by rw [eL, List.length_append, List.length_cons]
        refine fin (ob := some b) (ol := none) (L' := A ++ B) (D6.own F2.D nfr) (B26.own nfr) upd_same (((hA.but F2.D B26).append (hB.but F2.D B26)).upd nt6) ⟨?_, ?_, ?_, fun p hp => ?_, fun p hp => ?_, w45⟩ (eL ▸ chg_drop A B s b) (Row.upd (hr.but F2.D B26) nt6) rfl (fun r z => by cases z; exact lb) fun r z => by cases z
        · rw [List.length_append]
          omega
        · rw [List.length_append]
          omega
        · have z := okw.nd
          rw [eL, List.map_append, List.map_cons] at z
          rw [List.map_append]
          exact z.sublist (List.Sublist.append (List.Sublist.refl _) (List.sublist_cons_self _ _))
        · rcases List.mem_append.mp hp with z | z
          · exact okw.st p (by rw [eL]; exact List.mem_append_left _ z)
          · exact okw.st p (by rw [eL]; exact List.mem_append_right _ (List.mem_cons_of_mem _ z))
        · rcases List.mem_append.mp hp with z | z
          · exact okw.ww p (by rw [eL]; exact List.mem_append_left _ z)
          · exact okw.ww p (by rw [eL]; exact List.mem_append_right _ (List.mem_cons_of_mem _ z))
      · rw [decide_eq_false kz]
        refine iteF ⟨_, rfl, fr, ks, rfl, e6, _, _, rfl, rfl, ?_⟩
        by_cases lt : (ks.length : Int) < 8
        · exact ⟨true, dlt lt, iteT (iteT ⟨_, rfl, _, rfl, _, rfl, fr, _, rfl, DPut.k (k := .inl s) e6 big, put D6 B26 e6 (r5.but D5 B6)⟩)⟩
        · exact ⟨false, dnl lt, iteF ⟨_, rfl, rfl, true, congrArg V.bl vr, iteT ⟨_, rfl, _, rfl, _, rfl, fr, _, rfl, DPut.k (k := .inl s) e6 big, put D6 B26 e6 (r5.but D5 B6)⟩⟩⟩
    · refine ⟨false, dnl gt, iteF (iteF ⟨_, rfl, fr, ks, rfl, e5, _, _, rfl, rfl, ?_⟩)⟩
      by_cases lt : (ks.length : Int) < 8
      · exact ⟨true, dlt lt, iteT (iteT ⟨_, rfl, _, rfl, _, rfl, fr, _, rfl, DPut.k (k := .inl s) e5 big, put D5 B25 e5 r5⟩)⟩
      · exact ⟨false, dnl lt, iteF ⟨_, rfl, rfl, true, congrArg V.bl vr, iteT ⟨_, rfl, _, rfl, _, rfl, fr, _, rfl, DPut.k (k := .inl s) e5 big, put D5 B25 e5 r5⟩⟩⟩
end
end Kn
-- part TLawC
set_option maxHeartbeats 8000000
/-! The law, the change by after_change. -/
namespace Kn
open PySem PySem.Spec PyProof.Rows L2 Err LamX HLam
section
variable {P : Program} {w : World} {K : PySem.W.Frag} {mg : Str → Option Value} {base : Heap} {T : List (Addr × Str)} {CT CC CK CE : Addr} {f : Addr} {cdv : Value} {A : Around} {outer : List Env} {s0 : Shared} {H00 : Hp} {E00 : XK}
theorem law_c (L0 : LE66 P w K mg base T CT CC CK CE) (hr : Room 11 (XL66 P w K mg base f cdv A outer s0 H00 E00).A) (hgd : (XL66 P w K mg base f cdv A outer s0 H00 E00).A.guards = some []) : PSs (XL66 P w K mg base f cdv A outer s0 H00 E00) (lawTail 8) (P8 T) := by
  have S := scLaw66
  have hu := hu_of hr
  have hr1 := hr.mono (show 1 ≤ 11 by decide)
  have hr2 := hr.mono (show 2 ≤ 11 by decide)
  have hr3 := hr.mono (show 3 ≤ 11 by decide)
  have hr4 := hr.mono (show 4 ≤ 11 by decide)
  have hr5 := hr.mono (show 5 ≤ 11 by decide)
  have hr7 := hr.mono (show 7 ≤ 11 by decide)
  have hr11 := hr
  obtain ⟨fT, fdT, GT, kT, bT, gT⟩ := L0.take
  obtain ⟨fP, fdP, GP, kP, bP, gP⟩ := L0.pick
  obtain ⟨fNu, fdNu, GNu, kNu, bNu, gNu⟩ := L0.num
  obtain ⟨fTu, fdTu, GTu, kTu, bTu, gTu⟩ := L0.tups
  obtain ⟨fCk, fdCk, GCk, kCk, bCk, gCk⟩ := L0.chk
  obtain ⟨fO, fdO, GO, kO, bO, gO, kbO⟩ := L0.of
  obtain ⟨fA, fdA, GA, kA, bA, gA, kbA⟩ := L0.aft
  obtain ⟨fRf, fdRf, GRf, kRf, bRf, gRf⟩ := L0.ref
  have mr := L0.fr "range" (by decide)
  have mm := L0.fr "min" (by decide)
  have mn := L0.fr "len" (by decide)
  have ml := L0.fr "list" (by decide)
  have mt := L0.fr "tuple" (by decide)
  have md := L0.fr "dict" (by decide)
  have mre := L0.fr "repr" (by decide)
  refine PSs.pre (P8 T) (pss_cons (ps_set (i := 12) S.nd rfl (.inl rfl) (pe_call GA hr5 (by rfl) gA kA bA .nil (passes_call L2.takes0 fun _ _ _ _ h => h) (pa_cons (pv 6) (pa_cons (pv 8) (pa_cons (pv 10) (pa_cons (pv 11) pa_nil))))))
      (pss_cons (ps_if (PW.pt (pw_or (pt_cmpR (show OpR _ (compareOp .NotEq) (rNeD K) from op_neD hr1.units) (pv 12) (pe_lc (own := [("_law_index", 13)]) (g := gName 13) rfl S.nd (pi_range1 (by rfl) mr (pa_cons (pv 5) pa_nil)) (blkOk_by (N := NLaw66) (sc := defScope sLaw) (by decide +kernel)) (fun _ _ _ _ _ => (pg_name (i := 13) S.nd rfl (.inl rfl))) (fun _ _ _ _ _ => pts_nil) (fun _ _ _ _ _ => (pe_call GCk hr2 (by rfl) gCk kCk bCk .nil pass0 (pa_cons (pv 9) (pa_cons (pv 13) pa_nil))))) (nomark _)) (pw_or1 (pt_cmpR op_ne (pe_callB (show CallR _ (.builtin "repr") (Rp.rRp K) from Rp.call_rp hgd hr.units) (by rfl) mre PyProof.Rows.boot_repr (pa_cons (pv 4) pa_nil)) (pv 7) (nomark _))))) (pss_one (ps_ret pe_bl)) pss_nil)
      (pss_cons (ps_if (pt_cmpR (show OpR _ (compareOp .NotEq) (rNeD K) from op_neD hr1.units) (pe_callN0 GA hr5 (by rfl) gA kA kbA (passes_call L2.takes0 fun _ _ _ _ h => h) (pk_cons (pv 10) (pk_cons (pv 11) (pk_cons (pv 8) (pk_cons (pe_callTy (show CallR _ (.type "tuple") (rTupA K) from call_tuple_of) (by rfl) mt (by decide +kernel) (pa_cons (pv 12) pa_nil)) pk_nil))))) (pv 6) (nomark _)) (pss_one (ps_ret pe_bl)) pss_nil)
      (pss_one (ps_if (pt_not (pt_val (pe_call GRf hr11 (by rfl) gRf kRf bRf .nil pass0 (pa_cons (pv 1) (pa_cons (pv 4) (pa_cons (pv 3) pa_nil)))))) (pss_one (ps_ret pe_bl)) pss_nil))))) ?_
  rintro D0 σ H ⟨d, l, c, tu, du, fr, L, L', s, ob, ol, bv, lv, wd, n, y0, y2, y12, y13, y14, rfl, F, s1, s9, hfr, ok', hc, hb, hl, lob, lol, q⟩
  have w45 := F.ok.w45
  obtain ⟨cs, edu, rdu⟩ := F.du
  have lcs : cs.length = n := by rw [rdu.1, List.length_map, List.length_range]
  have n4 := F.n4
  refine ⟨_, rfl, _, rfl, _, rfl, _, rfl, ?_⟩
  dsimp only [tNil, List.append_nil]
  refine after_case (.inl (cut_le _ _ edu)) (rdu.same cut_le) s1 s9 (hb.same cut_le) (hl.same cut_le) (chks_len F.ok) lob lol w45 (by omega) fun p ys H1 sm np ep rp => ?_
  rw [lcs, after_ok hc F.ok.ww ok'.ww lob lol] at rp
  have F1 := F.same sm
  have hfr1 := hfr.same (But.of sm).cut
  have hb1 := hb.same (But.of sm).cut
  have hl1 := hl.same (But.of sm).cut
  have offp := F.D.off np
  have ecp := cut_at ep offp.1 offp.2
  clear edu rdu lcs hfr hb hl F sm np
  have rc1 : RowsL (cut d l H1) ys (chks wd n L') := ⟨rp.1, fun i v e => by
    obtain ⟨ns, e1, r⟩ := rp.2 i v e
    exact ⟨ns, e1, r.cut F1.D⟩⟩
  clear ep rp
  have ly : ys.length = n := by rw [rc1.1, List.length_map, List.length_range]
  -- the sums after the change
  refine ⟨_, rfl, ?_⟩
  refine due_lc (σ := [y0, some (.ref d), y2, some (.int wd), some (.ref tu), some (.int n), some (.ref du), some (.str (tupsD L).shown), some (.int s), some (.ref fr), some bv, some lv, some (.ref p), y13, y14]) (i := 9) rfl (fun _ => rfl) (fun _ => rfl) (fun _ => rfl) (hfr1.same cut_le) ok' n4 fun p2 cs2 H2 s2 np2 e2 r2 => ?_
  have F2 := F1.same s2
  have ecp2 := (But.of s2).cut _ _ ecp
  have rc2 := rc1.same (But.of s2).cut
  refine rows_ne (cut_le _ _ ecp2) (rc2.same cut_le) e2 r2 ⟨false, rfl, iteF ?_⟩
  have sho : ∀ p ∈ L, p.1.natAbs < 10 ^ 21 ∧ p.2.length ≤ 45 ∧ Sml p.2 := fun p hp => by
    have z := F1.ok.st p hp
    have e : (10 : Nat) ^ 21 = 1000000000000000000000 := by decide
    exact ⟨by omega, by rw [F1.ok.ww p hp]; exact w45, F1.sm p hp⟩
  obtain ⟨w1, w2, w3⟩ := tups_show sho F1.l8
  refine ⟨_, rfl, .ref tu, tupsD L, rfl, (tups_ty (F2.tu.same cut_le)).tx, w1, w2, w3, _, rfl, rfl, false, ?_, iteF ?_⟩
  · show V.bl (!decide _) = _
    rw [decide_eq_true rfl]
    rfl
  have hb2 := hb1.same (But.of s2).cut
  have hl2 := hl1.same (But.of s2).cut
  clear F1 hfr1 hb1 hl1 ecp rc1 s2 np2 e2 r2 w1 w2 w3 sho
  -- and back
  refine ⟨_, rfl, _, rfl, _, rfl, _, rfl, p, ys, rfl, .inl ⟨SqL.of (cut_le _ _ ecp2), fun t nt => ⟨rfl, rfl, ?_⟩⟩⟩
  have s3 : Same H2 (L2.upd H2 t (.tup ys)) := same_new nt
  have et : (L2.upd H2 t (.tup ys)) t = some (.tup ys) := upd_same
  generalize L2.upd H2 t (.tup ys) = H3 at s3 et ⊢
  have F3 := F2.same s3
  refine after_case (.inr (.inl et)) ((rc2.same cut_le).same s3) s1 s9 ((hl2.same cut_le).same s3) ((hb2.same cut_le).same s3) (chks_len ok') lol lob w45 (by omega) fun p4 ys4 H4 s4 np4 e4 r4 => ?_
  rw [ly, after_ok hc.symm ok'.ww F3.ok.ww lol lob] at r4
  have F4 := F3.same s4
  obtain ⟨cq, eq, rq⟩ := F4.du
  refine ⟨_, rfl, rows_ne e4 r4 (cut_le _ _ eq) (rq.same cut_le) ⟨false, rfl, iteF ?_⟩⟩
  -- what is refused
  refine ⟨_, rfl, _, rfl, _, rfl, d, l, c, tu, L, wd, rfl, F4.D, F4.T, F4.tu, F4.ok, F4.l8, fun H5 D5 T5 B5 => ⟨_, rfl, iteF ?_⟩⟩
  exact q _ _ ⟨_, _, _, _, _, _, _, _, _, _, _, _, _, _, rfl, D5, T5⟩
end
end Kn
-- part TLaw
set_option maxHeartbeats 8000000
/-! The law. -/
namespace Kn
open PySem PySem.Spec PyProof.Rows L2 Err LamX HLam Rp
def spLaw66 (K : PySem.W.Frag) (T : List (Addr × Str)) : Sp := fun vs H Q _ => ∃ (a : Addr) (ns : List Int), vs = [.ref a] ∧ SqL K H a (ns.map V.int) ∧ ns.length ≤ 63 ∧ Tabs T H ∧ ∀ H', Q (.bl true) H'
theorem sql_same {K : PySem.W.Frag} {H H' : Hp} {a : Addr} {xs : List V} (h : SqL K H a xs) (s : Same H H') : SqL K H' a xs := by
  rcases h with h | h
  · exact .inl (Rd.same h s)
  · exact .inr h
section
variable {P : Program} {w : World} {CT CC CK CE : Addr} {K : PySem.W.Frag} {mg : Str → Option Value} {base : Heap} {T : List (Addr × Str)} {f : Addr}
theorem ok_law66 {fd : FuncData} (F : Fun K "law" "law" sLaw f fd) (L0 : LE66 P w K mg base T CT CC CK CE) :
    Gd.FnOkG P w K mg base CX0 12 f fd ["_law_script"] (spLaw66 K T) := by
  have S := scLaw66
  obtain ⟨fB, fdB, GB, kB, bB, gB⟩ := L0.begun
  obtain ⟨fA, fdA, GA, kA, bA, gA, kbA⟩ := L0.aft
  have mr := L0.fr "range" (by decide)
  have mm := L0.fr "min" (by decide)
  have mn := L0.fr "len" (by decide)
  refine Gd.okG F S (fun vs H Q E h => ?_) fun cdv A outer s H vs Q E hr hg h => ?_
  · obtain ⟨a, ns, rfl, _⟩ := h
    rfl
  · obtain ⟨a, ns, rfl, hS, hn, hT, q⟩ := h
    have hr1 := hr.mono (show 1 ≤ 11 by decide)
    have hr5 := hr.mono (show 5 ≤ 11 by decide)
    suffices z : ∃ t, PSs (XL66 P w K mg base f cdv A outer s H E) (defBody sLaw) t ∧ t { nx := fun _ H' => Q .non H', rt := Q } (start NLaw66 [.ref a]) H by
      obtain ⟨t, h1, h2⟩ := z
      exact ⟨t, h1, h2⟩
    have tc := law_c (f := f) (cdv := cdv) (A := A) (outer := outer) (s0 := s) (H00 := H) (E00 := E) L0 hr hg
    have tb := law_b (f := f) (cdv := cdv) (A := A) (outer := outer) (s0 := s) (H00 := H) (E00 := E) L0 hr hg tc
    have ta := law_a (f := f) (cdv := cdv) (A := A) (outer := outer) (s0 := s) (H00 := H) (E00 := E) L0 hr hg tb
    refine ⟨_, pss_cons (ps_set (i := 1) S.nd rfl (.inr rfl) (pe_call GB hr1 (by rfl) gB kB bB .nil pass0 (pa_cons (pv 0) pa_nil)))
      (pss_cons (ps_for PassesOwn.never rfl (pi_range1 (by rfl) mr (pa_cons (pe_op op_add pe_int (pe_callB (call_min2 rfl) (by rfl) mm (by decide +kernel) (pa_cons (pe_callB call_len_seq (by rfl) mn PySem.boot_len (pa_cons (pv 0) pa_nil)) (pa_cons pe_int pa_nil)))) pa_nil)) (pg_name (i := 2) S.nd rfl (.inl rfl))
        ta)
      (pss_one (ps_ret (pe_cmpR (show OpR _ (compareOp .Eq) (rEqD K) from op_eqD hr1.units) (pe_call GA hr5 (by rfl) gA kA bA .nil (passes_call L2.takes0 fun _ _ _ _ h => h) (pa_cons (pe_lst pa_nil) (pa_cons pe_int (pa_cons (pe_tup (pa_cons pe_int (pa_cons pe_int pa_nil))) (pa_cons pe_non pa_nil))))) (pe_lst pa_nil) (nomark _))))), ?_⟩
    refine ⟨_, rfl, a, ns, rfl, hS, hn, fun d l c H1 s1 nd nl nc D => ?_⟩
    have hS1 := sql_same hS s1
    have small : (if (3 : Int) < ((ns.map V.int).length : Int) then (3 : Int) else ((ns.map V.int).length : Int)) ≤ 3 := by
      split <;> omega
    have pos : (0 : Int) ≤ (if (3 : Int) < ((ns.map V.int).length : Int) then (3 : Int) else ((ns.map V.int).length : Int)) := by
      split <;> omega
    refine ⟨_, rfl, a, _, rfl, .inl hS1, _, _, rfl, _, _, rfl, rfl, _, rfl, by omega, by omega, for_range (fun i σ H2 => LInv T d l c σ H2)
      ⟨_, _, _, _, _, _, _, _, _, _, _, _, _, _, rfl, D, hT.ext s1⟩ ?_ ?_⟩
    · rintro i σ H2 hi ⟨y0, y2, y3, y4, y5, y6, y7, y8, y9, y10, y11, y12, y13, y14, rfl, z⟩
      exact ⟨d, l, c, ⟨_, _, _, _, _, _, _, _, _, _, _, _, _, _, rfl, z⟩, fun σ' H' z' => z'⟩
    · rintro σ H2 ⟨y0, y2, y3, y4, y5, y6, y7, y8, y9, y10, y11, y12, y13, y14, rfl, z⟩
      refine ⟨by show 0 ≤ sizeLine; decide, fun p np => ⟨by show 2 ≤ sizeLine; decide, fun t nt => ?_⟩⟩
      have e1 : (L2.upd (L2.upd H2 p (.lst [])) t (.tup [.int 1, .int 2])) p = some (.lst []) := same_new nt _ _ upd_same
      have r1 : Row (L2.upd (L2.upd H2 p (.lst [])) t (.tup [.int 1, .int 2])) (.ref t) [1, 2] := ⟨t, rfl, .inl upd_same, by decide⟩
      generalize L2.upd (L2.upd H2 p (.lst [])) t (.tup [.int 1, .int 2]) = H3 at e1 r1 ⊢
      dsimp only [tCons, tC, tNil, List.append_nil]
      refine after_case (sn := 9) (xs := []) (ls := []) (ob := some [1, 2]) (ol := none) (wd := 2) (.inl e1) ⟨rfl, fun i v e => by cases e⟩ (by decide) (by decide) r1 rfl (fun r hr => by cases hr) (fun r z => by cases z; rfl) (fun r z => by cases z) (by decide) (by decide) fun p2 ys H4 s4 np2 e4 r4 => ?_
      refine ⟨by show 0 ≤ sizeLine; decide, fun p3 np3 => ?_⟩
      have s5 : Same H4 (L2.upd H4 p3 (.lst [])) := same_new np3
      have e5 : (L2.upd H4 p3 (.lst [])) p3 = some (.lst []) := upd_same
      generalize L2.upd H4 p3 (.lst []) = H5 at s5 e5 ⊢
      refine ⟨rowsD [], rowsD [], rows_dp (s5 _ _ e4) (r4.same s5), rows_dp e5 ⟨rfl, fun i v e => by cases e⟩, rows_shaped [], rows_shaped [], ?_⟩
      rw [SeqAt.eqv_refl _ (SeqAt.canLay_of_shaped (rows_shaped []))]
      exact q H5
end
end Kn
-- part THk3
set_option maxHeartbeats 4000000
/-! What is refused, the law. -/
namespace Kn
open PySem PySem.Spec PyProof.Rows L2
theorem vals_app : ∀ {a b : List V} {c d : List Value}, Vals a c → Vals b d → Vals (a ++ b) (c ++ d)
  | _, _, _, _, .nil, h => h
  | _, _, _, _, .cons x t, h => .cons x (vals_app t h)
theorem vals_rev : ∀ {a : List V} {c : List Value}, Vals a c → Vals a.reverse c.reverse
  | _, _, .nil => .nil
  | _, _, .cons x t => by
    rw [List.reverse_cons, List.reverse_cons]
    exact vals_app (vals_rev t) (.cons x .nil)
end Kn
namespace Hk
open PySem PySem.Spec PyProof.Rows L2 NdefX Err Kn LamX
section
variable {P : Program} {w : World} {K : PySem.W.Frag} {h : Heap} {mg : Str → Option Value} {base : Heap}
variable (d : Hd K h mg)
include d
theorem of_k : DfK P w K mg base (L2.CX P w) 7 "checks_of" ["tuples", "count"] (spOr (spOf (He.ga K "BadTuples") (He.ga K "BadCount")) (spOf2 P w (He.ga K "BadTuples"))) := by
  obtain ⟨f1, fd1, G1, k1, b1, g1⟩ := df_ct (P := P) (w := w) (base := base) d
  obtain ⟨f4, fd4, G4, k4, b4, g4⟩ := df_ct2 (P := P) (w := w) (base := base) d
  obtain ⟨f2, fd2, G2, k2, b2, g2⟩ := df_cc (P := P) (w := w) (base := base) d
  obtain ⟨f3, fd3, G3, k3, b3, g3⟩ := df_all (P := P) (w := w) (base := base) d
  obtain ⟨fd, F⟩ := md_at d.c 16 (x := "checks_of") (n := 30) rfl
  refine ⟨_, fd, fn_or (ok_of F.toFun G1 k1 b1 g1 G2 k2 b2 g2 G3 k3 b3 g3 d.checks) (ok_of2 F.toFun G4 k4 b4 g4 G2 k2 b2 g2 G3 k3 b3 g3 d.checks), F.kp, F.toFun.binds fun _ _ _ _ _ _ us hl => match us, hl with | [_, _], _ => rfl, gl_at d.X d.G d.c 16 (x := "checks_of") (n := 30) rfl, ⟨fun s us ws _ h1 h2 => ?_, fun r rz => vals_app r (vals_rev rz)⟩⟩
  obtain ⟨oc, od, kV, doc, pm, an, ct, osl, rfl, _, _⟩ := F.ex
  match us, ws, h1, h2 with
  | [], [a, b], _, _ => exact .of_eq rfl
theorem aft_k : DfK P w K mg base (L2.CX P w) 5 "after_change" ["checks", "seat", "before", "later"] (spAfter (He.ga K "BadChecks") (He.ga K "BadSeat") (He.ga K "BadTuples")) := by
  obtain ⟨f1, fd1, G1, k1, b1, g1⟩ := df_checks (P := P) (w := w) (base := base) d
  obtain ⟨f2, fd2, G2, k2, b2, g2⟩ := df_seat (P := P) (w := w) (base := base) d
  obtain ⟨f3, fd3, G3, k3, b3, g3⟩ := df_tupN (P := P) (w := w) (base := base) d
  obtain ⟨f4, fd4, G4, k4, b4, g4⟩ := df_wide (P := P) (w := w) (base := base) d
  obtain ⟨f5, fd5, G5, k5, b5, g5⟩ := df_raised (P := P) (w := w) (base := base) d
  obtain ⟨f6, fd6, G6, k6, b6, g6⟩ := df_plus (P := P) (w := w) (base := base) d
  obtain ⟨fd, F⟩ := md_at d.c 17 (x := "after_change") (n := 31) rfl
  refine ⟨_, fd, ok_after F.toFun G1 k1 b1 g1 G2 k2 b2 g2 G3 k3 b3 g3 G4 k4 b4 g4 G5 k5 b5 g5 G6 k6 b6 g6 d.four.k d.four.e d.four.t d.all d.list d.enum, F.kp, F.toFun.binds fun _ _ _ _ _ _ us hl => match us, hl with | [_, _, _, _], _ => rfl, gl_at d.X d.G d.c 17 (x := "after_change") (n := 31) rfl, ⟨fun s us ws _ h1 h2 => ?_, fun r rz => vals_app r (vals_rev rz)⟩⟩
  obtain ⟨oc, od, kV, doc, pm, an, ct, osl, rfl, _, _⟩ := F.ex
  match us, ws, h1, h2 with
  | [], [a, b, c, e], _, _ => exact .of_eq rfl
theorem df_ref {T : List (Addr × Str)} {Pt : Addr} (TB : TabB base mg (cdq K (He.ga K "_law_refused_right")) Pt) (h1 : (Pt, ("_law_refused_right.<locals>." : Str) ++ "<lambda>") ∈ T) (h2 : ∀ p ∈ T, p.1 = Pt → p.2 = ("_law_refused_right.<locals>." : Str) ++ "<lambda>") :
    Dfx P w K mg base CX0 11 "_law_refused_right" ["_law_draw", "_law_tuples_here", "_law_width"] (spRef T) := by
  obtain ⟨fP, fdP, GP, kP, bP, gP⟩ := df_pick (P := P) (w := w) (base := base) d
  obtain ⟨fW, fdW, GW, kW, bW, gW⟩ := df_word (P := P) (w := w) (base := base) d
  obtain ⟨fO, fdO, GO, kO, bO, gO, _⟩ := of_k (P := P) (w := w) (base := base) d
  obtain ⟨fA, fdA, GA, kA, bA, gA, _⟩ := aft_k (P := P) (w := w) (base := base) d
  obtain ⟨fC, fdC, FC, bC, gC⟩ := caught_at d
  obtain ⟨fd, F⟩ := md_at d.c 29 (x := "_law_refused_right") (n := 44) rfl
  exact ⟨_, fd, ok_ref F TB h1 h2 d.four d.still GP kP bP gP GW kW bW gW GO kO bO gO GA kA bA gA FC bC gC d.tuple d.list d.dict d.range,
    F.kp, F.toFun.binds fun _ _ _ _ _ _ us hl => match us, hl with | [_, _, _], _ => rfl, gl_at d.X d.G d.c 29 (x := "_law_refused_right") (n := 44) rfl⟩
theorem env_at {T : List (Addr × Str)} {Pt : Addr} (TB : TabB base mg (cdq K (He.ga K "_law_refused_right")) Pt) (h1 : (Pt, ("_law_refused_right.<locals>." : Str) ++ "<lambda>") ∈ T) (h2 : ∀ p ∈ T, p.1 = Pt → p.2 = ("_law_refused_right.<locals>." : Str) ++ "<lambda>") :
    LE66 P w K mg base T (He.ga K "BadTuples") (He.ga K "BadCount") (He.ga K "BadChecks") (He.ga K "BadSeat") where
  begun := df_begun d
  take := df_take d
  pick := df_pick d
  num := df_lnum d
  tups := df_ltup d
  chk := df_lchk d
  of := of_k d
  aft := aft_k d
  ref := df_ref d TB h1 h2
  fr := fun x hx => by
    simp only [List.mem_cons, List.not_mem_nil, or_false] at hx
    rcases hx with rfl | rfl | rfl | rfl | rfl | rfl | rfl
    · exact d.range
    · exact d.min
    · exact d.len
    · exact d.list
    · exact d.tuple
    · exact d.dict
    · exact d.repr
end
/-- the table of the def that makes lambdas -/
def csK (K : PySem.W.Frag) : List (Addr × Addr) := TN.map fun x => (cdq K (He.ga K x), tbq K x)
def ttK (K : PySem.W.Frag) : List (Addr × Str) := TN.map fun x => (tbq K x, x ++ (".<locals>." : Str) ++ "<lambda>")
theorem cs_all {K : PySem.W.Frag} {φ : Addr × Addr → Prop} (f : ∀ x ∈ TN, φ (cdq K (He.ga K x), tbq K x)) : ∀ p ∈ csK K, φ p := fun p hp => by
  obtain ⟨x, hx, rfl⟩ := List.mem_map.mp hp
  exact f x hx
theorem tt_has {K : PySem.W.Frag} {x : Str} (hx : x ∈ TN) : (tbq K x, x ++ (".<locals>." : Str) ++ "<lambda>") ∈ ttK K := List.mem_map_of_mem hx
theorem tt_only {K : PySem.W.Frag} {x : Str} (hx : x ∈ TN) : ∀ p ∈ ttK K, p.1 = tbq K x → p.2 = x ++ (".<locals>." : Str) ++ "<lambda>" := fun p hp _ => by
  obtain ⟨y, hy, rfl⟩ := List.mem_map.mp hp
  unfold TN at hx hy
  rw [List.mem_singleton.mp hx, List.mem_singleton.mp hy]
theorem facts {P : Program} {w : World} {K : PySem.W.Frag} {h : Heap} {mg : Str → Option Value} {f : Addr} (d : Hd K h mg) (hfa : mg ("law" : Str) = some (.ref f)) :
    ∃ fd : FuncData, (∀ (s : Shared) (v : Value), BindsTo s fd ⟨[v], []⟩ [("_law_script", v)]) ∧ ∀ base : Heap, K.In base → base.Ns mainGlobals mg → (∀ p ∈ csK K, TabB base mg p.1 p.2) → Gd.FnOkG P w K mg base CX0 12 f fd ["_law_script"] (spLaw66 K (ttK K)) := by
  obtain ⟨fd, F⟩ := md_at d.c 30 (x := "law") (n := 45) rfl
  have e := hfa.symm.trans (gl_at d.X d.G d.c 30 (x := "law") (n := 45) rfl)
  cases e
  refine ⟨fd, fun s v => ?_, fun base _ _ TB => ?_⟩
  · obtain ⟨oc, od, kV, doc, pm, an, ct, osl, rfl, _, _⟩ := F.ex
    exact .of_eq rfl
  · have tb : ∀ x ∈ TN, TabB base mg (cdq K (He.ga K x)) (tbq K x) := fun x hx => TB _ (List.mem_map_of_mem (f := fun x => (cdq K (He.ga K x), tbq K x)) hx)
    have i1 : ("_law_refused_right" : Str) ∈ TN := by unfold TN; exact List.mem_cons_self ..
    exact ok_law66 F.toFun (env_at (w := w) d (T := ttK K) (tb _ i1) (tt_has i1) (tt_only i1))
end Hk
-- part THk4
set_option maxHeartbeats 0
open PySem PySem.W PySem.Calls PyProof.Rows
theorem PySem.Challenge.cw_stillknown_k66_checks_and_changes_holds : PySem.Challenge.rw_stillknown_k66_checks_and_changes.Holds := by
  w_on; o_law
  refine HandSHeadRun.head_any (r := OpenLaw.row PySem.Challenge.rw_stillknown_k66_checks_and_changes) (q := view (OpenLaw.row PySem.Challenge.rw_stillknown_k66_checks_and_changes).prog [45]) (H := Hk.hk) (ob := Hk.ob) (M := 6000) (loose := Hk.loose) (d := HandSHeadRun.topDef (OpenLaw.row PySem.Challenge.rw_stillknown_k66_checks_and_changes).prog 45) (kwd := []) Hk.ob_eq
    (by kernel_rfl) (fun s => by kernel_rfl) Hk.run (by kernel_rfl) (by kernel_rfl) (by kernel_rfl) (by rfl) (by first | assumption | decide +kernel) (by decide +kernel) ⟨rfl, rfl, rfl, rfl, rfl, by decide +kernel⟩ ?hw ?hc
  case hw => w_witness2
  case hc =>
    refine Gd.walkGET (l := PySem.Challenge.rw_stillknown_k66_checks_and_changes) (n := 63) (k := 12) (x := "_law_script") rfl (by decide) (by kernel_rfl) ⟨rfl, by decide, by decide⟩ ?F
    intro w mg fa h Y G hmg0
    obtain ⟨K, KX, c⟩ := Y
    have hmg : mg ("law" : PySem.Str) = some (.ref fa) := by
      have e : (HandSHeadRun.topDef (OpenLaw.row PySem.Challenge.rw_stillknown_k66_checks_and_changes).prog 45).name = ("law" : PySem.Str) := by kernel_rfl
      rw [← e]
      exact hmg0
    obtain ⟨fd, hb, hF⟩ := Hk.facts (P := (OpenLaw.row PySem.Challenge.rw_stillknown_k66_checks_and_changes).prog) (w := w) ⟨KX, G, c⟩ hmg
    refine ⟨K, fd, Kn.spLaw66 K (Hk.ttK K), Hk.csK K, KX, Hk.cs_all fun x hx => (Hk.tab_at c hx).1, Hk.cs_all fun x hx => c.tb x hx, Hk.cs_all fun x hx => (Hk.tab_at c hx).2, hb, fun H a ns hl hT hS => ⟨a, ns, rfl, hS, hl, fun p hp => ?_, fun _ => rfl⟩, hF⟩
    have z : p.1 ∈ (Hk.csK K).map (·.2) := by
      obtain ⟨x, hx, rfl⟩ := List.mem_map.mp hp
      exact List.mem_map.mpr ⟨_, List.mem_map_of_mem hx, rfl⟩
    obtain ⟨r, hr, e⟩ := List.mem_map.mp z
    exact LamX.TabS.nil (e ▸ hT r hr)
