import PyProof.Rows.All
import Wide.All
import OpenK.AllK
import Wide.FinOn
import HandS.ForMost
import HandS.ExcInit
import HandS.Nested
import HandS.IsInst
import KE.KExcSuper
import HandS.ExcValue
import HandS.ExcField
import KE.KExcIs
import HandS.Walk
import HandS.WordsExc
import HandS.Defaults
import HandS.Head0
import HandS.Head1
import HandS.Head2
import HandS.HeadEnd
import HandS.HeadHook1
import HandS.HeadHook2
import PySem.Challenge.RW_stillknown_k01_errors_of_all_parts
set_option Elab.async false
set_option linter.all false
set_option maxRecDepth 100000
set_option maxHeartbeats 0
/-! What the law's top leaves on the heap, looked at by names, and the run of that top. -/
namespace Kn
open PySem PySem.Spec PyProof.Rows L2
def topS (i : Nat) : Stmt := PySem.Challenge.pw_stillknown_k01_errors_of_all_parts.main.body.getD i (.Pass ⟨0, 0, 0, 0⟩)
def NM : List Str :=
  (["BadRow", "BadKinds", "BadForm", "BadPath", "BadRule", "BadPieces", "BadReading", "BadPaper", "BadNumbers", "BadModulus"] : List Str) ++
  (["BadWanted", "Endless", "BadOrder", "BadSide", "BadPrices", "BadChoice", "BadIndex", "NotKnown", "BadAmong", "BadExpressions"] : List Str) ++
  (["OtherKinds", "BadMarks", "BadLayout", "BadLot", "BadLinks", "BadRoot", "BadFilling", "BadTies", "BadTie", "BadTuples"] : List Str) ++
  (["BadChecks", "BadCount", "BadSeat", "BadSeats", "BadWidth", "BadScheme", "Unfit", "BadPolynomial", "BadName", "NothingDone"] : List Str) ++
  (["BadLoop", "BadPattern", "BadBook", "BadRows", "NoQuestion", "BadExpression", "TooMany", "BadKind", "BadNumber", "BadMix"] : List Str) ++
  (["BadReadings", "BadKeep", "BadBooks", "NoVersion", "BadPlaces", "BadTold", "NoPlace", "NotNow", "BadJournal", "BadText"] : List Str)
def AT : List Str := ["part", "part", "part", "at", "name", "spot", "most", "kind", "part", "part", "at", "at", "at", "at", "at", "name", "at", "word", "at", "at"]
end Kn
namespace Hk
open PySem PySem.Spec PyProof.Rows L2 Kn
/-- the text of an error class with an __init__: its name, its attribute, the __init__ -/
structure ErrD where
  nm : Str
  att : Str
  qual : Str
  params : Arguments
  body : List Stmt
  scope : Scope
def vTail : List Value := [.type "ValueError", .type "Exception", .type "BaseException", .type "object"]
def eqM (a b : Option (List Value)) : Bool := decide (a = b)
/-- a class of errors, as isinstance and the making ask -/
def basB (K : PySem.W.Frag) (C : Addr) : Bool :=
  decide (PySem.W.typeIn K (.ref C) = some (.type "type")) && (PySem.W.keepIn K (.ref C) && ((PySem.W.clsIn K C).isSome && (He.eqO (PySem.W.findIn K (.ref C) "__getattribute__") (some (some (.builtin "BaseException.__getattribute__"))) &&
  (He.eqO (PySem.W.findIn K (.ref C) "__getattr__") (some none) && (He.eqO (PySem.W.findIn K (.ref C) "__class__") (some (some (.builtin "object.__class__"))) && PySem.W.hasDictIn K C)))))
def mroB (K : PySem.W.Frag) (C : Addr) (l : List Value) : Bool := eqM ((PySem.W.clsIn K C).map (·.mro)) (some l)
/-- facts that no class has of its own -/
def genB (K : PySem.W.Frag) : Bool :=
  He.eqO (PySem.W.specialIn K (.builtin "object.__class__") "__get__") (some (some (.builtin "getset_descriptor.__get__"))) && (decide (PySem.W.takesIn K (.builtin "object.__class__") = some true) &&
  (He.eqO (PySem.W.nsIn K cStatics "thirdparty.any") (some none) && (K.lookup sysModules).isSome))
/-- an __init__ with one cell -/
abbrev FnI : Type := Option (Str × Str × Arguments × FuncBody × Scope × Addr × Addr)
def ini (K : PySem.W.Frag) (x : Str) : Addr := He.ma K (He.ga K x) "__init__"
def iObs (K : PySem.W.Frag) (x : Str) : FnI := match K.lookup (ini K x) with
  | some ⟨_, _, .func fd, _⟩ => some (fd.name, fd.qualname, fd.params, fd.body, fd.scope, fd.globals, fd.builtins)
  | _ => none
def ErrD.val (d : ErrD) : FnI := some ("__init__", d.qual, d.params, .stmts d.body, d.scope, mainGlobals, builtinsNs)
def cellB (K : PySem.W.Frag) (cc C : Addr) : Bool := match K.lookup cc with
  | some ⟨_, _, .cell (some (.ref D)), _⟩ => decide (D = C)
  | _ => false
def fileB (K : PySem.W.Frag) (cd : Addr) (file : Str) : Bool := match K.lookup cd with
  | some ⟨_, _, .fields vs, _⟩ => (match (vs[2]? : Option Value) with
    | some (Value.str f _) => file == f
    | _ => false)
  | _ => false
def iniB (K : PySem.W.Frag) (file : Str) (d : ErrD) : Bool := match K.lookup (ini K d.nm) with
  | some ⟨_, _, .func fd, _⟩ => (match fd.closure, fd.defaults, fd.code with
    | [(x, cc)], .none, .ref cd => decide (x = "__class__") && (cellB K cc (He.ga K d.nm) && (PySem.W.codeIn K (.ref cd) d.qual && fileB K cd file))
    | _, _, _ => false)
  | _ => false
def oexB (K : PySem.W.Frag) (C : Addr) : Bool := match K.lookup C with
  | some ⟨.type "type", _, .cls cd, sl⟩ => (match cd.mro, sl.toList with
    | .ref D :: bm, [_, _, _, _, some (.builtin n), _] => decide (D = C) && (decide (n = "ValueError.__new__") && (!cd.hasDel && (cd.hasDict && PySem.HandSPX.refsVE bm)))
    | _, _ => false)
  | _ => false
def oneB (K : PySem.W.Frag) (file : Str) (d : ErrD) : Bool :=
  iniB K file d && (oexB K (He.ga K d.nm) && (He.eqO (PySem.W.findIn K (.ref (He.ga K d.nm)) "__setattr__") (some (some (.builtin "object.__setattr__"))) &&
  (He.eqO (PySem.W.findIn K (.ref (He.ga K d.nm)) "__init__") (some (some (.ref (ini K d.nm)))) && (decide (PySem.W.typeIn K (.ref (ini K d.nm)) = some (.type "function")) &&
  (He.eqO (PySem.W.ks_superIn K (He.ga K d.nm) (He.ga K d.nm) "__init__") (some (some (.builtin "ValueError.__init__"))) && He.eqO (PySem.W.findIn K (.ref (He.ga K d.nm)) d.att) (some none))))))
def bS : Str := "StillError"
def nodB : List Addr → Bool
  | [] => true
  | a :: r => !r.contains a && nodB r
def clsB (K : PySem.W.Frag) (x : Str) : Bool := (He.Fa.glo x).ok K && (basB K (He.ga K x) && mroB K (He.ga K x) ([.ref (He.ga K x), .ref (He.ga K bS)] ++ vTail))
abbrev AlK : Type := Bool × (List He.FnV × List FnI)
def chk (file : Str) (fa : List He.Fa) (fn : List He.FnD) (ed : List ErrD) (K : PySem.W.Frag) : Bool :=
  genB K && (((He.Fa.glo bS).ok K && (basB K (He.ga K bS) && (mroB K (He.ga K bS) ([.ref (He.ga K bS)] ++ vTail) && PySem.W.excIn K (He.ga K bS) He.veBase "ValueError.__new__"))) &&
  (NM.all (clsB K) && ((NM.take 40).all (fun x => PySem.W.excIn K (He.ga K x) He.veBase "ValueError.__new__") && (nodB ((bS :: NM).map (He.ga K)) && (ed.all (oneB K file) &&
  (fa.all (fun f => f.ok K) && fn.all (fun d => (He.Fa.code d.at_ d.qual).ok K && PySem.W.keepIn K (.ref (He.fAd K d.at_)))))))))
def obsK (file : Str) (fa : List He.Fa) (fn : List He.FnD) (ed : List ErrD) (K : PySem.W.Frag) : AlK := (chk file fa fn ed K, fn.map (fun d => He.fnObs K d.at_), ed.map fun d => iObs K d.nm)
def valK (fn : List He.FnD) (ed : List ErrD) : AlK := (true, fn.map He.FnD.val, ed.map ErrD.val)
/-- what an object of the top holds on to, as far as the looks go -/
def own (o : Obj) : List Addr := match o.data with
  | .cls cd => [cd.ns]
  | .func fd => He.refV fd.code ++ fd.closure.map (·.2)
  | .dict es _ => es.toList.flatMap fun e => He.refV e.val
  | _ => []
def lay (g : Addr → Option Obj) (as : List Addr) : List Addr := as.flatMap fun a => match g a with
  | some o => own o
  | none => []
def tops (g : Addr → Option Obj) (as : List Addr) : List Addr := [mainGlobals, cStatics, sysModules] ++ (as ++ (lay g as ++ (lay g (lay g as) ++ lay g (lay g (lay g as)))))
def frK (g : Addr → Option Obj) : PySem.W.Frag := He.frG g (tops g (lay g [mainGlobals]))
def hookK (file : Str) (fa : List He.Fa) (fn : List He.FnD) (ed : List ErrD) : PySem.W.Hook where
  α := AlK
  obs := fun s => obsK file fa fn ed (frK s.heap.get?)
  val := fun _ => valK fn ed
  says := fun _ h => ∃ K : PySem.W.Frag, K.In h ∧ obsK file fa fn ed K = valK fn ed
  of := fun _ _ e => ⟨_, He.frG_in, e⟩
  keeps := fun _ _ _ ⟨K, hK, c⟩ k => ⟨K, PySem.W.Frag.In.keeps hK k, c⟩
theorem obsK_eq {file : Str} {fa : List He.Fa} {fn : List He.FnD} {ed : List ErrD} {g : Addr → Option Obj} {s : Shared} (h : ∀ a, g a = s.heap.get? a) : obsK file fa fn ed (frK g) = (hookK file fa fn ed).obs s := by
  have e : g = s.heap.get? := funext h
  rw [e] <;> rfl
def eD (n a q : Str) (c : Nat) : ErrD := ⟨n, a, q, defArgs (inClass (topS c) 0), defBody (inClass (topS c) 0), defScope (inClass (topS c) 0)⟩
def d0 : ErrD := eD "BadLoop" "part" "BadLoop.__init__" 2
def d1 : ErrD := eD "BadPattern" "part" "BadPattern.__init__" 3
def d2 : ErrD := eD "BadBook" "part" "BadBook.__init__" 4
def d3 : ErrD := eD "BadRows" "at" "BadRows.__init__" 5
def d4 : ErrD := eD "NoQuestion" "name" "NoQuestion.__init__" 7
def d5 : ErrD := eD "BadExpression" "spot" "BadExpression.__init__" 8
def d6 : ErrD := eD "TooMany" "most" "TooMany.__init__" 9
def d7 : ErrD := eD "BadKind" "kind" "BadKind.__init__" 11
def d8 : ErrD := eD "BadNumber" "part" "BadNumber.__init__" 15
def d9 : ErrD := eD "BadMix" "part" "BadMix.__init__" 16
def d10 : ErrD := eD "BadReadings" "at" "BadReadings.__init__" 18
def d11 : ErrD := eD "BadKeep" "at" "BadKeep.__init__" 30
def d12 : ErrD := eD "BadBooks" "at" "BadBooks.__init__" 35
def d13 : ErrD := eD "NoVersion" "at" "NoVersion.__init__" 36
def d14 : ErrD := eD "BadPlaces" "at" "BadPlaces.__init__" 50
def d15 : ErrD := eD "BadTold" "name" "BadTold.__init__" 55
def d16 : ErrD := eD "NoPlace" "at" "NoPlace.__init__" 56
def d17 : ErrD := eD "NotNow" "word" "NotNow.__init__" 58
def d18 : ErrD := eD "BadJournal" "at" "BadJournal.__init__" 60
def d19 : ErrD := eD "BadText" "at" "BadText.__init__" 61
def ED : List ErrD := [d0, d1, d2, d3, d4, d5, d6, d7, d8, d9, d10, d11, d12, d13, d14, d15, d16, d17, d18, d19]
def loose : List Str :=
  (["StillError", "BadLoop", "BadPattern", "BadBook", "BadRows", "BadRow", "NoQuestion", "BadExpression", "TooMany", "BadKinds"] : List Str) ++
  (["BadKind", "BadForm", "BadPath", "BadRule", "BadNumber", "BadMix", "BadPieces", "BadReadings", "BadReading", "BadPaper"] : List Str) ++
  (["BadNumbers", "BadModulus", "BadWanted", "Endless", "BadOrder", "BadSide", "BadPrices", "BadChoice", "BadIndex", "BadKeep"] : List Str) ++
  (["NotKnown", "BadAmong", "BadExpressions", "OtherKinds", "BadBooks", "NoVersion", "BadMarks", "BadLayout", "BadLot", "BadLinks"] : List Str) ++
  (["BadRoot", "BadFilling", "BadTies", "BadTie", "BadTuples", "BadChecks", "BadCount", "BadSeat", "BadSeats", "BadPlaces"] : List Str) ++
  (["BadWidth", "BadScheme", "Unfit", "BadPolynomial", "BadTold", "NoPlace", "BadName", "NotNow", "NothingDone", "BadJournal"] : List Str) ++
  (["BadText", "_law_begun", "_law_mixed", "_law_take", "_law_pick", "_law_any", "_law_former", "_law_latter", "_law_bare", "_law_filled"] : List Str) ++
  (["_law_kept"] : List Str)
abbrev RW : PySem.W.OpenLaw := PySem.Challenge.rw_stillknown_k01_errors_of_all_parts
abbrev R : PySem.W.OpenRow := PySem.W.OpenLaw.row RW
def fnAt (x : Str) (i : Nat) : He.FnD := ⟨(x, none), x, x, defArgs (topS i), defBody (topS i), defScope (topS i)⟩
def fn : List He.FnD := [fnAt "_law_begun" 63, fnAt "_law_mixed" 64, fnAt "_law_take" 65, fnAt "_law_pick" 66, fnAt "_law_any" 67, fnAt "_law_former" 68, fnAt "_law_latter" 69, fnAt "_law_bare" 70, fnAt "_law_filled" 71, fnAt "_law_kept" 72, fnAt "law" 73]
def fa : List He.Fa := [.free "isinstance", .free "super", .free "enumerate", .free "range", .free "repr", .free "ValueError", .free "int", .free "len", .free "abs",
  .glo "_law_begun", .glo "_law_mixed", .glo "_law_take", .glo "_law_pick", .glo "_law_any", .glo "_law_former", .glo "_law_latter", .glo "_law_bare", .glo "_law_filled", .glo "_law_kept", .glo "law"]
abbrev hk : PySem.W.Hook := hookK R.prog.main.file fa fn ED
def ob (s : PySem.W.SharedT) : AlK := obsK R.prog.main.file fa fn ED (frK (HandSHeadRun.getT s))
theorem ob_eq (s : PySem.W.SharedT) : ob s = hk.obs s.abs := obsK_eq (HandSHeadRun.getT_eq s)
theorem run (w : World) : HandSHeadRun.RunEq R (PySem.W.view R.prog [73]) hk ob 15000 loose w := by
  intro os
  kernel_rfl
end Hk
set_option maxHeartbeats 4000000
namespace Kn
open PySem PySem.Spec PyProof.Rows L2
abbrev sBegun : Stmt := topS 63
abbrev sMixed : Stmt := topS 64
abbrev sTake : Stmt := topS 65
abbrev sPick : Stmt := topS 66
/-- the draws as a dict -/
abbrev kLarge : Key := Sum.inr "large"
abbrev kRest : Key := Sum.inr "rest"
abbrev kCells : Key := Sum.inr "cells"
abbrev kTurn : Key := Sum.inr "turn"
def dkv (l c : Addr) (r t : Int) : List (Key × V) := [(kLarge, .ref l), (kRest, .int r), (kCells, .ref c), (kTurn, .int t)]
theorem v_large (l c : Addr) (r t : Int) : valV (dkv l c r t) kLarge = some (.ref l) := by kernel_rfl
theorem v_rest (l c : Addr) (r t : Int) : valV (dkv l c r t) kRest = some (.int r) := by kernel_rfl
theorem v_cells (l c : Addr) (r t : Int) : valV (dkv l c r t) kCells = some (.ref c) := by kernel_rfl
theorem v_turn (l c : Addr) (r t : Int) : valV (dkv l c r t) kTurn = some (.int t) := by kernel_rfl
theorem p_rest (l c : Addr) (r t r' : Int) : putK (dkv l c r t) kRest (.int r') = dkv l c r' t := by kernel_rfl
theorem p_turn (l c : Addr) (r t t' : Int) : putK (dkv l c r t) kTurn (.int t') = dkv l c r t' := by kernel_rfl
def Ints (H : Hp) (a : Addr) : Prop := ∃ ns : List Int, H a = some (.lst (ns.map V.int))
structure Drw (H : Hp) (d l c : Addr) : Prop where
  dd : ∃ r t : Int, H d = some (.dK (dkv l c r t))
  ll : Ints H l
  cc : Ints H c
  lc : l ≠ c
/-- all that was tracked stands as it stood, but at the draws -/
def But (d l : Addr) (H H' : Hp) : Prop := ∀ b o, H b = some o → b ≠ d → b ≠ l → H' b = some o
section
variable {H H' : Hp} {d l c : Addr} {r t : Int}
theorem g_large (h : H d = some (.dK (dkv l c r t))) : DGet H d (.str "large") (some (.ref l)) := v_large l c r t ▸ DGet.k (k := kLarge) h
theorem g_rest (h : H d = some (.dK (dkv l c r t))) : DGet H d (.str "rest") (some (.int r)) := v_rest l c r t ▸ DGet.k (k := kRest) h
theorem g_cells (h : H d = some (.dK (dkv l c r t))) : DGet H d (.str "cells") (some (.ref c)) := v_cells l c r t ▸ DGet.k (k := kCells) h
theorem g_turn (h : H d = some (.dK (dkv l c r t))) : DGet H d (.str "turn") (some (.int t)) := v_turn l c r t ▸ DGet.k (k := kTurn) h
theorem q_rest {r' : Int} (h : H d = some (.dK (dkv l c r t))) : DPut H d (.str "rest") (.int r') (upd H d (.dK (dkv l c r' t))) := by
  have e := DPut.k (k := kRest) (v := .int r') h (by show 4 < sizeLine; decide)
  rw [p_rest] at e
  exact e
theorem q_turn {t' : Int} (h : H d = some (.dK (dkv l c r t))) : DPut H d (.str "turn") (.int t') (upd H d (.dK (dkv l c r t'))) := by
  have e := DPut.k (k := kTurn) (v := .int t') h (by show 4 < sizeLine; decide)
  rw [p_turn] at e
  exact e
theorem Drw.nl (D : Drw H d l c) : l ≠ d := by
  obtain ⟨⟨r, t, h⟩, ⟨ns, hl⟩, _, _⟩ := D
  exact ne_of hl h (by intro z; cases z)
theorem Drw.nc (D : Drw H d l c) : c ≠ d := by
  obtain ⟨⟨r, t, h⟩, _, ⟨ns, hc⟩, _⟩ := D
  exact ne_of hc h (by intro z; cases z)
/-- the dict is stored anew -/
theorem Drw.put (D : Drw H d l c) (r t : Int) : Drw (upd H d (.dK (dkv l c r t))) d l c :=
  ⟨⟨r, t, upd_same⟩, by obtain ⟨ns, e⟩ := D.ll; exact ⟨ns, by rw [upd_ne D.nl]; exact e⟩, by obtain ⟨ns, e⟩ := D.cc; exact ⟨ns, by rw [upd_ne D.nc]; exact e⟩, D.lc⟩
theorem But.refl : But d l H H := fun _ _ h _ _ => h
theorem But.trans {H1 H2 : Hp} (a : But d l H H1) (b : But d l H1 H2) : But d l H H2 := fun x o h h1 h2 => b x o (a x o h h1 h2) h1 h2
theorem But.atd {o : HO} : But d l H (upd H d o) := fun b u e h _ => by rw [upd_ne h]; exact e
theorem But.atl {o : HO} : But d l H (upd H l o) := fun b u e _ h => by rw [upd_ne h]; exact e
theorem But.new {p : Addr} {o : HO} (np : H p = none) : But d l H (upd H p o) := fun b u e _ _ => by rw [upd_ne (ne_of_none e np)]; exact e
theorem Drw.new {p : Addr} {o : HO} (D : Drw H d l c) (np : H p = none) : Drw (upd H p o) d l c := by
  obtain ⟨⟨r, t, h⟩, ⟨ns, hl⟩, ⟨ms, hc⟩, n⟩ := D
  exact ⟨⟨r, t, by rw [upd_ne (ne_of_none h np)]; exact h⟩, ⟨ns, by rw [upd_ne (ne_of_none hl np)]; exact hl⟩, ⟨ms, by rw [upd_ne (ne_of_none hc np)]; exact hc⟩, n⟩
end
def spMixed : Sp := fun vs H Q _ => ∃ d l c, vs = [.ref d] ∧ Drw H d l c ∧ ∀ (k : Int) H', Drw H' d l c → But d l H H' → Q (.int k) H'
def spTake : Sp := fun vs H Q _ => ∃ d l c n, vs = [.ref d, .int n] ∧ Drw H d l c ∧ 0 < n ∧ n < 1073741824 ∧ ∀ (k : Int) H', 0 ≤ k → k < n → Drw H' d l c → But d l H H' → Q (.int k) H'
def spPick : Sp := fun vs H Q _ => ∃ d l c s xs, vs = [.ref d, .ref s] ∧ Drw H d l c ∧ H s = some (.lst xs) ∧ s ≠ l ∧ 0 < xs.length ∧ xs.length ≤ 1000 ∧ ∀ (k : Nat) x H', xs[k]? = some x → Drw H' d l c → But d l H H' → Q x H'
theorem scM : FnScope ["_law_draw", "_law_turn", "_law_found", "_law_great", "_law_blend", "_law_grain"] ["_law_draw"] (defScope sMixed) := ⟨rfl, rfl, rfl, by decide +kernel, rfl, by decide +kernel, by decide +kernel⟩
theorem scT : FnScope ["_law_draw", "_law_amount", "_law_found"] ["_law_draw", "_law_amount"] (defScope sTake) := ⟨rfl, rfl, rfl, by decide +kernel, rfl, by decide +kernel, by decide +kernel⟩
theorem scP : FnScope ["_law_draw", "_law_some"] ["_law_draw", "_law_some"] (defScope sPick) := ⟨rfl, rfl, rfl, by decide +kernel, rfl, by decide +kernel, by decide +kernel⟩
/-- a remainder lies below 2^31 -/
theorem rem_in {a b : Int} (h0 : 0 < b) (h1 : b < 4294967296) : -(2 ^ 64) < a % b ∧ a % b < 2 ^ 64 := by
  have e1 := Int.emod_nonneg a (show b ≠ 0 by omega)
  have e2 := Int.emod_lt_of_pos a h0
  omega
theorem dp_ints {K : PySem.W.Frag} {H : Hp} : ∀ ns : List Int, DpAll K H (ns.map V.int) (ns.map PyData.int)
  | [] => .nil
  | n :: ns => .cons (.int n) (dp_ints ns)
theorem ints_shaped (ns : List Int) : SeqAt.shaped (.list (ns.map PyData.int)) = true := PySem.W.ke_shaped_ints ns
section
variable {P : Program} {w : World} {K : PySem.W.Frag} {mg : Str → Option Value} {base : Heap}
theorem ok_mixed {f : Addr} {fd : FuncData} (F : Fun K "_law_mixed" "_law_mixed" sMixed f fd) (mi : mg "int" = none) : FnOk P w K mg base CX0 1 f fd ["_law_draw"] spMixed := by
  refine F.ok scM (fun vs H Q E h => ?_) (fun cdv A outer s H vs Q E hr h => ?_)
  · obtain ⟨d, l, c, rfl, _⟩ := h
    rfl
  · obtain ⟨d, l, c, rfl, D, q⟩ := h
    have hu := hu_of hr
    refine ⟨_, pss_cons (ps_dput hu (pv 0) pe_str (pe_op op_add (pe_dget hu (pv 0) pe_str (fun _ _ => rfl)) pe_int) rfl)
      (pss_cons (ps_par (i := 1) (j := 2) rfl scM.nd rfl rfl (by decide) rfl rfl (pa_cons (pe_callTy call_int1 (by rfl) mi (by decide +kernel) (pa_cons (pe_dget hu (pv 0) pe_str (fun _ _ => rfl)) pa_nil)) (pa_cons pe_int pa_nil)) (by rfl) (by rfl))
      (pss_cons (ps_for PassesOwn.never rfl (pi_list (pe_lst (pa_cons pe_int (pa_cons pe_int (pa_cons pe_int pa_nil))))) (pg_name (i := 3) scM.nd rfl (.inl rfl))
        (pss_cons (ps_set (i := 4) scM.nd rfl (.inl rfl) (pe_op op_mod (pe_op op_add (pe_op op_mul (pv 1) pe_int) (pe_op op_fdiv (pv 3) pe_int)) (pv 3)))
        (pss_cons (ps_for PassesOwn.never rfl (pi_list (pe_dget hu (pv 0) pe_str (fun _ _ => rfl))) (pg_name (i := 5) scM.nd rfl (.inl rfl))
          (pss_one (ps_set (i := 4) scM.nd rfl (.inl rfl) (pe_op op_mod (pe_op op_add (pe_op op_mul (pv 4) pe_int) (pe_callTy call_int1 (by rfl) mi (by decide +kernel) (pa_cons (pv 5) pa_nil))) (pv 3)))))
        (pss_one (ps_set (i := 2) scM.nd rfl (.inl rfl) (pe_op op_add (pe_op op_mul (pv 2) pe_int) (pe_op op_mod (pe_op op_pow (pv 4) pe_int) (pv 3))))))))
      (pss_one (ps_ret (pv 2))))), ?_⟩
    obtain ⟨⟨r, t, hd⟩, ll, cc, lc⟩ := id D
    -- the turn
    refine ⟨_, rfl, d, _, rfl, g_turn hd, _, _, rfl, rfl, _, rfl, d, _, rfl, q_turn hd, ?_⟩
    have D1 := D.put r (t + 1)
    obtain ⟨⟨r1, t1, hd1⟩, _, _, _⟩ := id D1
    refine ⟨_, rfl, d, _, rfl, g_turn hd1, .inl ⟨_, rfl, _, _, rfl, ?_⟩⟩
    have B1 : But d l H (upd H d (.dK (dkv l c r (t + 1)))) := But.atd
    generalize upd H d (.dK (dkv l c r (t + 1))) = H1 at D1 hd1 B1 ⊢
    -- the three moduli
    refine ⟨by show 3 ≤ sizeLine; decide, fun p np => ?_⟩
    have gp : (upd H1 p (.lst [.int 2147483629, .int 2147483587, .int 2147483579])) p = some (.lst [.int 2147483629, .int 2147483587, .int 2147483579]) := upd_same
    refine ⟨p, rfl, ⟨_, SqL.of gp⟩, for_list (xs := [.int 2147483629, .int 2147483587, .int 2147483579]) (fun _ σ H2 => ∃ (fo : Int) (y3 y4 y5 : Option V), σ = [some (.ref d), some (.int t1), some (.int fo), y3, y4, y5] ∧ Drw H2 d l c ∧ But d l H H2 ∧ H2 p = some (.lst [.int 2147483629, .int 2147483587, .int 2147483579]))
      ⟨0, none, none, none, rfl, D1.new np, B1.trans (But.new np), gp⟩ (fun _ _ _ _ ⟨_, _, _, _, _, _, _, e⟩ => SqL.of e) ?_ ?_⟩
    · rintro i x σ H2 hx ⟨fo, y3, y4, y5, rfl, D2, B2, e2⟩
      obtain ⟨g, rfl, h0, h1⟩ : ∃ g : Int, x = .int g ∧ 0 < g ∧ g < 4294967296 := by
        rcases i with _ | _ | _ | i
        · exact ⟨_, (Option.some.inj hx).symm, by decide, by decide⟩
        · exact ⟨_, (Option.some.inj hx).symm, by decide, by decide⟩
        · exact ⟨_, (Option.some.inj hx).symm, by decide, by decide⟩
        · simp at hx
      refine ⟨_, rfl, _, _, rfl, rfl, .inr ⟨by decide, by decide⟩, _, rfl, _, _, rfl, rfl, ⟨by decide, by decide⟩, _, _, rfl, rfl, _, rfl, _, _, rfl, rfl, h0, ?_⟩
      obtain ⟨⟨r2, t2, hd2⟩, _, ⟨cs, hc2⟩, _⟩ := id D2
      refine ⟨_, rfl, d, _, rfl, g_cells hd2, c, rfl, ⟨_, SqL.of hc2⟩, for_list (xs := cs.map V.int) (fun _ σ H3 => ∃ (bl : Int) (y5 : Option V), σ = [some (.ref d), some (.int t1), some (.int fo), some (.int g), some (.int bl), y5] ∧ (-(2 ^ 64) < bl ∧ bl < 2 ^ 64) ∧ H3 = H2)
        ⟨_, y5, rfl, rem_in h0 h1, rfl⟩ (fun _ _ _ _ ⟨_, _, _, _, e⟩ => by rw [e]; exact SqL.of hc2) ?_ ?_⟩
      · rintro j x σ H3 hx ⟨b, y, rfl, hb, rfl⟩
        obtain ⟨z, rfl⟩ : ∃ z, x = V.int z := by
          rw [List.getElem?_map] at hx
          cases e : cs[j]? with
          | none => rw [e] at hx; cases hx
          | some z => rw [e] at hx; exact ⟨z, (Option.some.inj hx).symm⟩
        refine ⟨_, rfl, _, _, rfl, rfl, .inl hb, _, rfl, .inl ⟨_, rfl, _, _, rfl, rfl, _, rfl, _, _, rfl, rfl, h0, ?_⟩⟩
        exact ⟨_, _, rfl, rem_in h0 h1, rfl⟩
      · rintro σ H3 ⟨b, y, rfl, hb, rfl⟩
        refine ⟨_, rfl, _, _, rfl, rfl, .inr ⟨by decide, by decide⟩, _, rfl, _, _, rfl, rfl, ⟨by decide, by decide, ?_⟩, _, rfl, _, _, rfl, rfl, h0, _, _, rfl, rfl, ?_⟩
        · omega
        · exact ⟨_, _, _, _, rfl, D2, B2, e2⟩
    · rintro σ H2 ⟨fo, y3, y4, y5, rfl, D2, B2, e2⟩
      exact ⟨_, rfl, q fo H2 D2 B2⟩
theorem ok_take {f fM : Addr} {fd fdM : FuncData} (F : Fun K "_law_take" "_law_take" sTake f fd) (FM : Fun K "_law_mixed" "_law_mixed" sMixed fM fdM) (bM : Binds K fdM ["_law_draw"] []) (gM : mg "_law_mixed" = some (.ref fM)) (mi : mg "int" = none) :
    FnOk P w K mg base CX0 2 f fd ["_law_draw", "_law_amount"] spTake := by
  have GM : FnOk P w K mg base CX0 1 fM fdM ["_law_draw"] spMixed := ok_mixed FM mi
  refine F.ok scT (fun vs H Q E h => ?_) (fun cdv A outer s H vs Q E hr h => ?_)
  · obtain ⟨d, l, c, n, rfl, _⟩ := h
    rfl
  · obtain ⟨d, l, c, n, rfl, D, n0, n1, q⟩ := h
    have hu := hu_of hr
    refine ⟨_, pss_cons (ps_if (pt_cmpR op_eq (pe_dget hu (pv 0) pe_str (fun _ _ => rfl)) pe_int (nomark _))
        (pss_one (ps_dput hu (pv 0) pe_str (pe_ifExp (pt_cmpR (op_neD hr.units) (pe_dget hu (pv 0) pe_str (fun _ _ => rfl)) (pe_lst pa_nil) (nomark _))
          (pe_bm PySem.F.plainAttrs_list PySem.F.slot_list_pop PySem.F.type_list_pop mt_popAt (pe_dget hu (pv 0) pe_str (fun _ _ => rfl)) (pa_cons pe_int pa_nil))
          (pe_call GM hr (by rfl) gM FM.kp bM .nil pass0 (pa_cons (pv 0) pa_nil))) rfl)) pss_nil)
      (pss_cons (ps_set (i := 2) scT.nd rfl (.inl rfl) (pe_op op_mod (pe_callTy call_int1 (by rfl) mi (by decide +kernel) (pa_cons (pe_dget hu (pv 0) pe_str (fun _ _ => rfl)) pa_nil)) (pv 1)))
      (pss_cons (ps_dput hu (pv 0) pe_str (pe_op op_fdiv (pe_callTy call_int1 (by rfl) mi (by decide +kernel) (pa_cons (pe_dget hu (pv 0) pe_str (fun _ _ => rfl)) pa_nil)) (pv 1)) rfl)
      (pss_one (ps_ret (pv 2))))), ?_⟩
    obtain ⟨⟨r, t, hd⟩, ll, cc, lc⟩ := id D
    refine' (fun tail : ∀ H1 : Hp, Drw H1 d l c → But d l H H1 → (?G : Hp → Prop) H1 => ?a) ?b
    case a =>
      refine ⟨_, rfl, d, _, rfl, g_rest hd, rfl, _, rfl, ite2 (fun e => ?_) (fun e => ?_)⟩
      -- the rest is 0: the first of the large ones, or a mixed one
      · obtain ⟨ns, hl⟩ := ll
        refine ⟨_, rfl, d, _, rfl, g_large hd, Nat.zero_le _, fun p np => ?_⟩
        have Dp1 := D.new (o := .lst []) np
        have Bp1 : But d l H (upd H p (.lst [])) := But.new np
        have hl1 : (upd H p (.lst [])) l = some (.lst (ns.map V.int)) := by rw [upd_ne (ne_of_none hl np)]; exact hl
        have hd1 : (upd H p (.lst [])) d = some (.dK (dkv l c r t)) := by rw [upd_ne (ne_of_none hd np)]; exact hd
        have hp1 : (upd H p (.lst [])) p = some (.lst []) := upd_same
        generalize upd H p (.lst []) = H1 at Dp1 Bp1 hl1 hd1 hp1 ⊢
        refine ⟨.list (ns.map PyData.int), .list [], .lst (SqL.of hl1) (dp_ints ns), .lst (SqL.of hp1) .nil, ints_shaped ns, rfl, _, rfl, ?_⟩
        cases ns with
        | nil =>
          refine iteF ⟨.ref d, rfl, d, l, c, rfl, Dp1, fun k H2 D2 B2 => ?_⟩
          obtain ⟨⟨r2, t2, hd2⟩, _, _, _⟩ := id D2
          refine ⟨_, rfl, d, _, rfl, q_rest hd2, ?_⟩
          have D3 := D2.put k t2
          have B3 : But d l H (upd H2 d (.dK (dkv l c k t2))) := (Bp1.trans B2).trans But.atd
          generalize upd H2 d (.dK (dkv l c k t2)) = H3 at D3 B3 ⊢
          exact tail H3 D3 B3
        | cons x xs =>
          refine iteT ⟨_, rfl, d, _, rfl, g_large hd1, .inl ⟨rfl, _, SqL.of hl1⟩, l, _, 0, 0, .int x, rfl, rfl, hl1, by decide, by decide, seqIndex_of (by decide) (by simp), rfl, ?_⟩
          have D2 : Drw (upd H1 l (.lst (xs.map V.int))) d l c := ⟨⟨r, t, by rw [upd_ne D.nl.symm]; exact hd1⟩, ⟨xs, upd_same⟩, by obtain ⟨ms, hc⟩ := Dp1.cc; exact ⟨ms, by rw [upd_ne lc.symm]; exact hc⟩, lc⟩
          have B2 : But d l H (upd H1 l (.lst (xs.map V.int))) := Bp1.trans But.atl
          have eL : (List.map V.int (x :: xs)).eraseIdx 0 = xs.map V.int := rfl
          rw [eL]
          obtain ⟨⟨r2, t2, hd2⟩, _, _, _⟩ := id D2
          refine ⟨_, rfl, d, _, rfl, q_rest hd2, ?_⟩
          have D3 := D2.put x t2
          have B3 := B2.trans (But.atd (o := .dK (dkv l c x t2)))
          generalize upd (upd H1 l (.lst (xs.map V.int))) d (.dK (dkv l c x t2)) = H3 at D3 B3 ⊢
          exact tail H3 D3 B3
      · exact tail H D But.refl
    case b =>
      intro H1 D1 B1
      obtain ⟨⟨r1, t1, hd1⟩, _, _, _⟩ := id D1
      refine ⟨_, rfl, d, _, rfl, g_rest hd1, .inl ⟨_, rfl, _, rfl, _, _, rfl, rfl, n0, ?_⟩⟩
      refine ⟨_, rfl, d, _, rfl, g_rest hd1, .inl ⟨_, rfl, _, rfl, _, _, rfl, rfl, ⟨n0, n1⟩, _, rfl, d, _, rfl, q_rest hd1, ?_⟩⟩
      exact ⟨_, rfl, q _ _ (Int.emod_nonneg _ (by omega)) (Int.emod_lt_of_pos _ n0) (D1.put _ _) (B1.trans But.atd)⟩
theorem ok_pick {f fT fM : Addr} {fd fdT fdM : FuncData} (F : Fun K "_law_pick" "_law_pick" sPick f fd) (FT : Fun K "_law_take" "_law_take" sTake fT fdT) (FM : Fun K "_law_mixed" "_law_mixed" sMixed fM fdM)
    (bT : Binds K fdT ["_law_draw", "_law_amount"] []) (bM : Binds K fdM ["_law_draw"] []) (gT : mg "_law_take" = some (.ref fT)) (gM : mg "_law_mixed" = some (.ref fM)) (mi : mg "int" = none) (ml : mg "len" = none) :
    FnOk P w K mg base CX0 3 f fd ["_law_draw", "_law_some"] spPick := by
  have GT : FnOk P w K mg base CX0 2 fT fdT ["_law_draw", "_law_amount"] spTake := ok_take FT FM bM gM mi
  refine F.ok scP (fun vs H Q E h => ?_) (fun cdv A outer s H vs Q E hr h => ?_)
  · obtain ⟨d, l, c, z, xs, rfl, _⟩ := h
    rfl
  · obtain ⟨d, l, c, z, xs, rfl, D, hz, zl, x0, x1, q⟩ := h
    have hu := hu_of hr
    refine ⟨_, pss_one (ps_ret (pe_ix ix_list (pv 1) (pe_call GT hr (by rfl) gT FT.kp bT .nil pass0 (pa_cons (pv 0) (pa_cons (pe_callB call_len_seq (by rfl) ml PySem.boot_len (pa_cons (pv 1) pa_nil)) pa_nil))) (fun _ _ => rfl))), ?_⟩
    obtain ⟨⟨r, t, hd⟩, _, _, _⟩ := id D
    have zd : z ≠ d := ne_of hz hd (by intro z; cases z)
    refine ⟨_, rfl, _, rfl, _, rfl, z, xs, rfl, .inl (SqL.of hz), d, l, c, _, rfl, D, by omega, by omega, fun k H1 k0 k1 D1 B1 => ?_⟩
    obtain ⟨j, rfl⟩ : ∃ j : Nat, k = (j : Int) := ⟨k.toNat, by omega⟩
    have hj : j < xs.length := by omega
    exact ⟨z, xs, (j : Int), xs[j], rfl, rfl, SqL.of (B1 _ _ hz zd zl), atI_nat (List.getElem?_eq_getElem hj), q j _ H1 (List.getElem?_eq_getElem hj) D1 B1⟩
end
end Kn
set_option maxHeartbeats 4000000
namespace Kn
open PySem PySem.Spec PyProof.Rows L2
theorem scB : FnScope ["_law_script", "_law_large", "_law_grain"] ["_law_script"] (defScope sBegun) := ⟨rfl, rfl, rfl, by decide +kernel, rfl, by decide +kernel, by decide +kernel⟩
def spBegun (K : PySem.W.Frag) : Sp := fun vs H Q _ => ∃ (a : Addr) (ns : List Int), vs = [.ref a] ∧ SqL K H a (ns.map V.int) ∧ ns.length ≤ 63 ∧ ∀ d l c H', Same H H' → H d = none → H l = none → H c = none → Drw H' d l c → Q (.ref d) H'
theorem same_new {H : Hp} {p : Addr} {o : HO} (h : H p = none) : Same H (upd H p o) := fun b u e => by
  rw [upd_ne (ne_of_none e h)]
  exact e
theorem same_own {H H1 : Hp} {p : Addr} {o : HO} (h : H p = none) (s : Same H H1) : Same H (upd H1 p o) := fun b u e => by
  rw [upd_ne (ne_of_none e h)]
  exact s b u e
theorem int_at {ns : List Int} {i : Nat} {x : V} (h : (ns.map V.int)[i]? = some x) : ∃ z, x = V.int z ∧ i < ns.length := by
  have hi := (List.getElem?_eq_some_iff.mp h).1
  rw [List.length_map] at hi
  rw [List.getElem?_map, List.getElem?_eq_getElem hi] at h
  exact ⟨ns[i], (Option.some.inj h).symm, hi⟩
section
variable {P : Program} {w : World} {K : PySem.W.Frag} {mg : Str → Option Value} {base : Heap}
theorem ok_begun {f : Addr} {fd : FuncData} (F : Fun K "_law_begun" "_law_begun" sBegun f fd) (ma : mg "abs" = none) : FnOk P w K mg base CX0 1 f fd ["_law_script"] (spBegun K) := by
  refine F.ok scB (fun vs H Q E h => ?_) (fun cdv A outer s H vs Q E hr h => ?_)
  · obtain ⟨a, ns, rfl, _⟩ := h
    rfl
  · obtain ⟨a, ns, rfl, hS, hn, q⟩ := h
    have hu := hu_of hr
    refine ⟨_, pss_cons (ps_setLc (i := 1) (own := [("_law_grain", 2)]) (g := gName 2) rfl scB.nd rfl rfl (sw_true rfl rfl rfl (by decide +kernel)) (pi_list (pv 0)) (blkOk_by (N := ["_law_script", "_law_large", "_law_grain"]) (sc := defScope sBegun) (by decide +kernel)) (fun _ _ _ _ _ => pg_name (i := 2) scB.nd rfl (.inl rfl))
          (fun _ _ _ _ _ => pts_one (pt_cmpR op_ge (pe_callB call_abs (by rfl) ma (by decide +kernel) (pa_cons (pv 2) pa_nil)) (pe_op op_pow pe_int pe_int) (nomark _)))
          (fun _ _ _ _ _ => pe_op op_sub (pe_callB call_abs (by rfl) ma (by decide +kernel) (pa_cons (pv 2) pa_nil)) (pe_op op_pow pe_int pe_int)))
      (pss_one (ps_ret (pe_disp (pps_cons pe_str (pv 1) (pps_cons pe_str pe_int (pps_cons pe_str
          (pe_lc (own := [("_law_grain", 2)]) (g := gName 2) rfl scB.nd (pi_list (pv 0)) (blkOk_by (N := ["_law_script", "_law_large", "_law_grain"]) (sc := defScope sBegun) (by decide +kernel)) (fun _ _ _ _ _ => pg_name (i := 2) scB.nd rfl (.inl rfl)) (fun _ _ _ _ _ => pts_nil)
            (fun _ _ _ _ _ => pe_callB call_abs (by rfl) ma (by decide +kernel) (pa_cons (pv 2) pa_nil)))
          (pps_cons pe_str pe_int pps_nil)))) rfl rfl (by decide) (by decide)))), ?_⟩
    -- the large ones
    refine ⟨_, rfl, a, rfl, ⟨_, hS⟩, fun L nL => lc_list (xs := ns.map V.int) (fun i H2 => Same H H2 ∧ ∃ acc : List Int, H2 L = some (.lst (acc.map V.int)) ∧ acc.length ≤ i) ⟨same_new nL, [], upd_same, Nat.le_refl _⟩ (fun _ _ _ h => h.1.seq hS) ?_ ?_⟩
    · rintro i x H2 hx ⟨sm, acc, ea, la⟩
      obtain ⟨z, rfl, hi⟩ := int_at hx
      refine ⟨rfl, _, rfl, z, rfl, _, _, rfl, rfl, ⟨by decide, by decide, by decide⟩, _, _, rfl, rfl, _, rfl, ite2 (fun e => ?_) (fun e => ?_)⟩
      · refine ⟨_, rfl, z, rfl, _, _, rfl, rfl, ⟨by decide, by decide, by decide⟩, _, _, rfl, rfl, _, ea, ?_, same_own nL sm, acc ++ [(if z < 0 then -z else z) - 10 ^ Int.toNat 18], ?_, ?_⟩
        · rw [List.length_map]
          exact small1000 (by omega)
        · exact Eq.trans upd_same (by rw [List.map_append]; rfl)
        · rw [List.length_append, List.length_singleton]
          omega
      · exact ⟨sm, acc, ea, Nat.le_succ_of_le la⟩
    · rintro H2 ⟨sm, ls, eL, _⟩
      -- the dict
      refine fun p np => ?_
      have npL : L ≠ p := ne_of_none eL np
      refine ⟨_, rfl, _, rfl, a, rfl, ⟨_, (same_new np).seq (sm.seq hS)⟩, fun C nC => lc_list (xs := ns.map V.int) (fun i H3 => Same H H3 ∧ H3 p = some (.dK []) ∧ H3 L = some (.lst (ls.map V.int)) ∧ ∃ acc : List Int, H3 C = some (.lst (acc.map V.int)) ∧ acc.length ≤ i) ?_ (fun _ _ _ h => h.1.seq hS) ?_ ?_⟩
      · have npC : p ≠ C := ne_of_none upd_same nC
        have nC2 : H2 C = none := (same_new np).free nC
        refine ⟨sm.trans ((same_new np).trans (same_new nC)), ?_, ?_, [], upd_same, Nat.le_refl _⟩
        · rw [upd_ne npC, upd_same]
        · rw [upd_ne (ne_of_none eL nC2), upd_ne npL]
          exact eL
      · rintro i x H3 hx ⟨s3, ep, e3, acc, ea, la⟩
        obtain ⟨z, rfl, hi⟩ := int_at hx
        have pC : p ≠ C := ne_of ep ea (by intro z; cases z)
        have LC : L ≠ C := fun e => by
          have nC2 := (same_new (o := .dK []) np).free nC
          rw [← e, eL] at nC2
          cases nC2
        refine ⟨rfl, ?_⟩
        dsimp only [tYes]
        rw [if_pos rfl]
        refine ⟨_, rfl, z, rfl, _, ea, ?_, same_own (sm.free ((same_new np).free nC)) s3, ?_, ?_, acc ++ [if z < 0 then -z else z], ?_, ?_⟩
        · rw [List.length_map]
          exact small1000 (by omega)
        · rw [upd_ne pC]
          exact ep
        · rw [upd_ne LC]
          exact e3
        · exact Eq.trans upd_same (by rw [List.map_append]; rfl)
        · rw [List.length_append, List.length_singleton]
          omega
      · rintro H3 ⟨s3, ep, e3, acc, ea, la⟩
        have nC2 : H2 C = none := (same_new np).free nC
        have LC : L ≠ C := fun e => by
          rw [← e, eL] at nC2
          cases nC2
        have pC : C ≠ p := ne_of ea ep (by intro z; cases z)
        refine ⟨ep, dkv L C 0 0, rfl, by show 4 ≤ 15; decide, ?_⟩
        refine q p L C _ (same_own (sm.free np) s3) (sm.free np) nL (sm.free nC2) ⟨⟨0, 0, upd_same⟩, ⟨ls, ?_⟩, ⟨acc, ?_⟩, LC⟩
        · rw [upd_ne npL]
          exact e3
        · rw [upd_ne pC]
          exact ea
end
end Kn
set_option maxHeartbeats 4000000
/-! Errors of the package as values: made with their own __init__, which says super().__init__(text) and keeps one attribute. -/
namespace Err
open PySem PySem.Spec PyProof.Rows L2 NdefX
/-- what the top has written of an error class with an __init__ -/
structure Made (P : Program) (K : PySem.W.Frag) (C fI cc cd : Addr) (st : Stmt) (qual p : Str) : Prop where
  T : OexC K C
  iC : PySem.W.findIn K (.ref C) "__init__" = some (some (.ref fI))
  tI : PySem.W.typeIn K (.ref fI) = some (.type "function")
  fn : ∃ oc od kV doc pm an ct osl, K.lookup fI = some ⟨oc, od, .func (PySem.W.fnX "__init__" qual (defArgs st) (defBody st) (defScope st) [("__class__", cc)] .none kV doc pm an (.ref cd) ct), osl⟩
  code : PySem.W.codeIn K (.ref cd) qual = true
  file : ∃ c1 c2 vs c3 file tf, K.lookup cd = some ⟨c1, c2, .fields vs, c3⟩ ∧ vs[2]? = some (.str file tf) ∧ ((P.main.file : Str) == file) = true
  cell : ∃ c1 c2 c3, K.lookup cc = some ⟨c1, c2, .cell (some (.ref C)), c3⟩
  sup : PySem.W.ks_superIn K C C "__init__" = some (some (.builtin "ValueError.__init__"))
  any : PySem.W.nsIn K cStatics "thirdparty.any" = some none
  own : PySem.W.mroIn K C (.ref C) = some true
  subV : PySem.W.subIn K (.ref C) (.type "ValueError") = some true
  noA : PySem.W.findIn K (.ref C) p = some none
  top : (P.main.scope.names.lookup ("super" : Str)).isSome = false
section
variable {X : Cx} {C fI cc cd e : Addr} {st : Stmt} {qual p msg : Str} {pins : List (Addr × Obj)} {σ : L2.St} {H : Hp} {s : Shared} {q1 q2 q3 q4 q5 q6 : Pos} {body : List Stmt}
/-- the evaluation of super().__init__(text), as the positions let it be -/
def SupEv (q1 q2 q3 q4 q5 : Pos) (msg : Str) (pl : Sem Bool) (env : Env) : Prop :=
  eval (.Call (.Attribute (.Call (.Name "super" q1) [] [] q2) "__init__" q3) [.Constant (.str msg) 0 q4] [] q5) env = (do
    let ov ← attributeBase (.Call (.Name "super" q1) [] [] q2) "__init__" env (eval (.Call (.Name "super" q1) [] [] q2) env)
    standAt q3.atName
    let (f, first) ← holding [ov] (getMethod ov "__init__" pl)
    callWith q5 f first (backTo q5 (starEach [.Constant (.str msg) 0 q4] env)) [])
theorem super_at {pl : Sem Bool} (hev : SupEv q1 q2 q3 q4 q5 msg pl X.env) (M : Made X.prog X.K C fI cc cd st qual p) (I : Inv X pins σ H s) (hfu : X.env.func = some fI) (hco : X.env.code = .ref cd) (hks : Gl X "super") (hkc : X.env.kindOf "__class__" = some .free) (hcl : X.env.cells.lookup ("__class__" : Str) = some cc)
    (hN : X.N[0]? = some ("self" : Str)) (hka : X.env.kindOf "self" = some .local) (hp : ((defArgs st).posonlyargs ++ (defArgs st).args).head?.map (·.arg) = some ("self" : Str)) (ms : X.mg "super" = none)
    (hs0 : σ[0]? = some (some (.ref e))) (he : H e = some (exo e C none)) :
    PySem.wpAt (model X.prog X.w) X.A (.func body X.env) (exec (.Expr (.Call (.Attribute (.Call (.Name "super" q1) [] [] q2) "__init__" q3) [.Constant (.str msg) 0 q4] [] q5) q6) X.env)
      (fun fl s' => fl = .next ∧ Inv X pins σ H s') X.xe s := by
  obtain ⟨oc, od, kV, doc, pm, an, ct, osl, lk⟩ := M.fn
  obtain ⟨c1, c2, vs, c3, file, tf, lkc, hvs, hfile⟩ := M.file
  obtain ⟨d1, d2, d3, lcc⟩ := M.cell
  obtain ⟨ar, har, hara⟩ : ∃ ar, ((defArgs st).posonlyargs ++ (defArgs st).args).head? = some ar ∧ ar.arg = ("self" : Str) := by
    cases hq : ((defArgs st).posonlyargs ++ (defArgs st).args).head? with
    | none => rw [hq] at hp; cases hp
    | some ar => rw [hq] at hp; exact ⟨ar, rfl, Option.some.inj hp⟩
  obtain ⟨m, hns, hl⟩ := I.loc
  obtain ⟨u, ru, lu⟩ := hl 0 "self" _ hN hs0 (.inl hka)
  obtain rfl : u = Value.ref e := ru
  have hv : m ("self" : Str) = some (.ref e) := by
    rcases lu with ⟨_, z⟩ | ⟨z, _⟩
    · exact z
    · rcases z with z | z
      · rw [hka] at z; cases z
      · rw [hka] at z; cases z
  obtain ⟨t1, ho⟩ := exo_at I.hok he
  have KX := I.kIn
  obtain ⟨nm, q, N, bs, bm, sn, sub, ab, col, dd, k0, k1, k2, k3, k5, hC, hbm⟩ := M.T.cls
  refine ks_wpAt_Expr_any (ks_wpAt_MethodCall ?_ hev) I.quiet rfl
  refine ks_wpAt_super_base hks hkc rfl hfu (KX _ _ lk) rfl har hco (KX _ _ lkc) rfl hvs hfile M.top ?_
  obtain ⟨mb, hb1, hb2⟩ := I.mod.blt
  refine PySem.W.ks_loadName_global I.ok.kind hks (Calls.loadGlobal_builtin (by rw [I.ok.glob]; exact I.mod.glob.keeps I.bk) ms (by rw [I.ok.blt]; exact hb1.keeps I.bk) ((hb2 _ (by decide)).trans PyProof.Rows.Boot.«super») ⟨rfl, ?_⟩)
  refine wpAny_loadName_free I.ok.kind hkc hcl ⟨_, KX _ _ lcc, rfl⟩ ?_
  refine wpAny_loadName_local I.ok.kind (by rw [hara]; exact hka) hns (by rw [hara]; exact hv) ?_
  obtain ⟨hp1, g, dr, tk, os⟩ := s
  refine ks_wpAny_isType_cls (KX _ _ hC) rfl ⟨rfl, ?_⟩
  refine ks_wpAny_call_super (KX _ _ hC) rfl ho rfl (fun _ z => nomatch z) (PySem.W.looks_mroIn KX M.own) (fun h' es k => ?_)
  have I1 : Inv X pins σ H ⟨h', g, dr, tk, os⟩ := I.kept k
  have ho1 := k _ _ ho
  have In1 : PySem.W.InstAt h' e _ C none := ⟨ho1, rfl, rfl, trivial⟩
  have hm := M.sup
  unfold PySem.W.ks_superIn at hm
  cases hc : PySem.W.clsIn X.K C with
  | none => rw [hc] at hm; cases hm
  | some cd' =>
    rw [hc] at hm
    have hI : PySem.W.Looks (model X.prog X.w) h' (isInstance (.ref e) (.type "ValueError")) true := In1.type.andThen (PySem.W.looks_subIn I1.kIn M.subV)
    refine PySem.W.kxs_getMethod PySem.W.kxs_ValueError es (PySem.W.looks_opaque I1.kIn M.any) (l₀ := cd'.mro) (fun A Q E s k q => wpAny_bind ((PySem.W.looks_clsIn I1.kIn hc) A _ E s k (wpAny_pure q))) rfl I1.kIn hm hI (PySem.W.ks_ne I1.kIn In1 hc) rfl ?_
    have k2 : ∀ b o, h'.get? b = some o → (h'.push (PySem.W.kxs_mw "ValueError.__init__" e)).get? b = some o := fun b o z => Heap.get?_push_of_some _ z
    have I2 : Inv X pins σ H ⟨h'.push (PySem.W.kxs_mw "ValueError.__init__" e), g, dr, tk + 1, os⟩ := I1.kept (t' := tk + 1) k2
    have hu2 : (h'.push (PySem.W.kxs_mw "ValueError.__init__" e)).get? h'.objs.size = some (PySem.W.kxs_mw "ValueError.__init__" e) := Heap.get?_push_at rfl rfl
    have ho2 := k2 _ _ ho1
    generalize h'.push (PySem.W.kxs_mw "ValueError.__init__" e) = h2 at I2 hu2 ho2 ⊢
    refine PySem.W.kxs_callWith (i := "ValueError.__init__") (x := e) rfl (Calls.evalArgs_plain (Calls.spliced_cons (@wpAny_Constant_str _ _ _ _ X.env msg 0 q4 _ ?_)))
    refine Calls.spliced_nil ⟨hu2, ?_⟩
    have I3 : Inv X pins σ H ⟨h2, g, dr, tk + 1 + 1, os⟩ := I2.tok (tk + 1 + 1)
    have FB := F.excBase_ValueError
    refine wpAny_call (codeAny_of_tree ?_)
    show wpAny _ X.A.in1 (callAny (.ref h'.objs.size) ⟨[.str msg (tk + 1)], []⟩) _ _ _
    simp only [callAny]
    refine wpAny_bind (wpAny_load hu2 ?_)
    simp only [PySem.W.kxs_mw, show (Value.type "method-wrapper" == Value.type "method" || Value.type "method-wrapper" == Value.type "builtin_function_or_method" || Value.type "method-wrapper" == Value.type "method-wrapper") = true by decide, if_true]
    refine PySem.W.KFB.if_so (by decide) ?_
    refine wpAny_bind (PySem.W.check_bound_init FB.toExcCallFacts (I3.kIn _ _ hC) ho2 rfl ?_)
    refine wpAny_bind (wpAny_pure (wpAny_pure ?_))
    refine ⟨plainId_quiet FB.init.plain _, codeAny_builtin FB.initEntry ?_⟩
    refine PySem.W.exc_init_tree (cls := .ref C) (t0 := t1) (dv := none) (c2 := .none) (c3 := .none) (b4 := .bool false) ho2 (by show 1 ≤ sizeLine; decide) (fun h3 k3 e3 _ => ?_)
    have J := I3.write (t' := tk + 1 + 1) (x := e) (e := e) (o := exo e C none) (by rw [he]; exact True.intro) (.inl rfl) k3 ⟨_, e3⟩ (exo_ok e3)
    have eu : upd H e (exo e C none) = H := by
      funext b
      by_cases hb : b = e
      · rw [hb, upd_same, he]
      · rw [upd_ne hb]
    rw [eu] at J
    exact ⟨trivial, J⟩
/-- the function's data, as a nested def's -/
abbrev nf (st : Stmt) (qual : Str) (cc cd : Addr) : NF := ⟨"__init__", qual, defArgs st, defBody st, defScope st, [("__class__", cc)], cd⟩
theorem init_code {P : Program} {w : World} {K : PySem.W.Frag} {mg : Str → Option Value} {base : Heap} {A : Around} {outer : List Env} {s : Shared} {H : Hp} {Q : VK} {E : XK} {k : Nat} {args : Args} {u : Value} {x : V} {q7 q8 q9 q10 : Pos} {pl : Sem Bool}
    (M : Made P K C fI cc cd st qual p) (S : NScope ["self", p, "__class__"] ["self", p] ["__class__"] (defScope st))
    (hb : defBody st = [.Expr (.Call (.Attribute (.Call (.Name "super" q1) [] [] q2) "__init__" q3) [.Constant (.str msg) 0 q4] [] q5) q6, .Assign [.Attribute (.Name "self" q7) p q8] (.Name p q9) q10])
    (hev : ∀ env, SupEv q1 q2 q3 q4 q5 msg pl env) (hks : (defScope st).names.lookup ("super" : Str) = some .globalImplicit) (hpa : ((defArgs st).posonlyargs ++ (defArgs st).args).head?.map (·.arg) = some ("self" : Str))
    (hpd : (p == ("__debug__" : Str)) = false) (hpc : (p == ("__classdict__" : Str)) = false) (hsw : ∀ env, swapsWith (.Name p q9) (some (.Attribute (.Name "self" q7) p q8)) q10.line env = pure false)
    (ms : mg "super" = none) (hr : Room k A) (e0 : Env0 P w K mg base A outer s H) (he : H e = some (exo e C none)) (ru : L2.RelV x u)
    (hbind : ∀ kV doc pm an ct, BindsTo s (PySem.W.fnX "__init__" qual (defArgs st) (defBody st) (defScope st) [("__class__", cc)] .none kV doc pm an (.ref cd) ct) args [("self", .ref e), (p, u)])
    (hq : ∀ d, H d = none → d ≠ e → Q .non (upd (upd H d (exd d [(p, x)])) e (exo e C (some d)))) :
    codeAny (model P w) A (.call (.ref fI) args) (CR CX0 outer P w H s Q E) s := by
  obtain ⟨oc, od, kV, doc, pm, an, ct, osl, lk⟩ := M.fn
  obtain ⟨d1, d2, d3, lcc⟩ := M.cell
  have KX : K.In s.heap := e0.mod.kin.keeps fun b o z => (e0.bs b o z).1
  have lim : s.heap.NoLimit := e0.mod.nolimit.keeps fun b o z => (e0.bs b o z).1
  refine ks_codeAny_call_defAt (body := defBody st) (binds := [("self", .ref e), (p, u)]) hr.depth (KX _ _ lk) rfl lim (PySem.W.codeRec_of KX M.code) rfl (hbind _ _ _ _ _) S.nocell ?_ (fun h1 hns kp => ?_) S.co S.gen S.kind
  · intro y hy
    rcases List.mem_cons.mp hy with rfl | hy
    · exact S.par _ (by simp)
    · rcases List.mem_cons.mp hy with rfl | hy
      · exact S.par _ (by simp)
      · cases hy
  have I : Inv (ncx CX0 P w K mg base ["self", p, "__class__"] (nf st qual cc cd) fI A outer s H E) [] (startF ["self", p, "__class__"] [.ref e, x] [some (.ref C)]) H { s with heap := h1, toks := s.toks + 2 } := by
    refine inv_startN (us := [.ref e, u]) S hr.hd e0 rfl (.cons rfl (.cons ru .nil)) ?_ hns kp
    have hcc := e0.mod.kin _ _ lcc
    have one : ∀ (y : Str) (c : Addr), ([("__class__", cc)] : List (Str × Addr)).lookup y = some c → y = "__class__" ∧ c = cc := fun y c z => by
      rw [List.lookup_cons] at z
      by_cases hy : (y == ("__class__" : Str)) = true
      · rw [hy] at z
        exact ⟨eq_of_beq hy, (Option.some.inj z).symm⟩
      · rw [Bool.not_eq_true] at hy
        rw [hy] at z
        cases z
    refine ⟨rfl, fun y c z => ?_, fun a b c z1 z2 => (one _ _ z1).1.trans (one _ _ z2).1.symm, fun i y z => ?_⟩
    · obtain ⟨_, rfl⟩ := one _ _ z
      exact ⟨(e0.bs _ _ hcc).2, _, _, KX _ _ lcc, rfl⟩
    · rcases i with _ | i
      · obtain rfl : ("__class__" : Str) = y := Option.some.inj z
        refine ⟨cc, by rw [List.lookup_cons]; simp, fun v hv => ?_⟩
        obtain rfl : V.ref C = v := Option.some.inj (Option.some.inj hv)
        exact ⟨.ref C, rfl, _, KX _ _ lcc, rfl⟩
      · simp at z
  have kself : (defScope st).names.lookup ("self" : Str) = some .local := S.par _ (by simp)
  have kp' : (defScope st).names.lookup p = some .local := S.par _ (by simp)
  have kcl : (defScope st).names.lookup ("__class__" : Str) = some .free := S.frk _ (by simp)
  show PySem.wpAt (model P w) (ncx CX0 P w K mg base ["self", p, "__class__"] (nf st qual cc cd) fI A outer s H E).A (.func (defBody st) (ncx CX0 P w K mg base ["self", p, "__class__"] (nf st qual cc cd) fI A outer s H E).env) (execs (defBody st) (ncx CX0 P w K mg base ["self", p, "__class__"] (nf st qual cc cd) fI A outer s H E).env) _ _ { s with heap := h1, toks := s.toks + 2 }
  rw [hb]
  refine ks_wpAt_execs_cons (ks_wpAt_mono (super_at (X := ncx CX0 P w K mg base ["self", p, "__class__"] (nf st qual cc cd) fI A outer s H E) (hev _) M I rfl rfl hks kcl (by show List.lookup ("__class__" : Str) [(("__class__" : Str), cc)] = some cc; rw [List.lookup_cons]; simp) rfl kself hpa ms rfl he) (fun fl s' hJ => ?_) fun _ _ z => z)
  obtain ⟨rfl, J⟩ := hJ
  have ht : PSs (ncx CX0 P w K mg base ["self", p, "__class__"] (nf st qual cc cd) fI A outer s H E) [.Assign [.Attribute (.Name "self" q7) p q8] (.Name p q9) q10] _ :=
    pss_one (ps_ost (pe_var (i := 0) rfl (.inl kself)) (pe_var (i := 1) rfl (.inl kp') hpd hpc) (hsw _))
  refine wpAt_of_wpAny (wpAny_mono (ht.run [] s' _ H { nx := fun _ H' => Q .non H', rt := Q } J ?_) (fun fl s'' hs => ?_) fun _ _ z => z)
  · refine ⟨x, rfl, .ref e, rfl, e, C, rfl, M.T, M.noA, .inl ⟨he, fun dx nd ne => hq dx nd ne⟩⟩
  · cases fl with
    | next =>
      obtain ⟨σ', H', J', q⟩ := hs
      exact ⟨.non, H', J'.os, J'.bare, J'.base, J'.hok, rfl, q⟩
    | ret v =>
      obtain ⟨v', σ', H', J', rv, q⟩ := hs
      exact ⟨v', H', J'.os, J'.bare, J'.base, J'.hok, rv, q⟩
    | brk =>
      obtain ⟨_, _, _, q⟩ := hs
      exact False.elim q
    | cont =>
      obtain ⟨_, _, _, q⟩ := hs
      exact False.elim q
end
end Err
set_option maxHeartbeats 4000000
namespace Err
open PySem PySem.Spec PyProof.Rows L2 NdefX PySem.HandSPX
section
variable {M : Model} {A : Around} {E : Value → Shared → Prop} {h : Heap} {g : Array GenState} {d : Drawn} {t : Nat} {os : OsState} {nm q : Str} {C N : Addr}
  {bs bm bmB : List Value} {hdct : Bool} {sn : List Str} {sub : List Value} {ab : Bool} {col : Option Bool} {dd : Option Addr} {k0 k1 k2 k3 k5 : Option Value} {B newId initId : String}
  {kw : List (Str × Value)}
theorem newK_check (FB : ExcBaseFacts B newId initId bmB) (hT : ∀ X : String, bm.contains (.type X) = bmB.contains (.type X)) {Q : Unit → Shared → Prop}
    (hC : h.get? C = some (excClassObj nm q C N bs bm hdct sn sub ab col dd k0 k1 k2 k3 k5 newId))
    (hq : Q () ⟨h, g, d, t, os⟩) : wpAny M A (checkBuiltinCall newId ⟨[.ref C], kw⟩) Q E ⟨h, g, d, t, os⟩ := by
  have inB : (Value.ref C :: bm).contains (.type B) = true := by
    rw [List.contains_cons, hT, FB.hasB, Bool.or_true]
  have star := FB.noStar
  simp only [checkBuiltinCall, FB.newKind, FB.newSplit, FB.newRow]
  repeat (first
    | refine wpAny_loadPart_at hC ?_
    | (refine wpAny_isSubtype_exc hC ?_
       rw [inB])
    | refine wpAny_staticBase_exc hC ?_
    | refine wpAny_madeBy_exc hC ?_
    | simp only [bne_self_eq_false, Bool.false_eq_true, if_false]
    | wp_step)
  exact hq
end
section
variable {prog : Program} {w : World} {A : Around} {E : Value → Shared → Prop} {R : Result → Shared → Prop} {h : Heap} {g : Array GenState} {d : Drawn} {t : Nat} {os : OsState}
  {nm q : Str} {C N : Addr} {bs bm bmB : List Value} {hdct : Bool} {sn : List Str} {sub : List Value} {ab : Bool} {col : Option Bool} {dd : Option Addr} {k0 k1 k2 k3 k5 : Option Value}
  {B newId initId : String} {kw : List (Str × Value)}
theorem newK_code (FB : ExcBaseFacts B newId initId bmB) (hT : ∀ X : String, bm.contains (.type X) = bmB.contains (.type X))
    (hC : h.get? C = some (excClassObj nm q C N bs bm hdct sn sub ab col dd k0 k1 k2 k3 k5 newId))
    (hq : R (.ok (.ret (.ref (h.objs.size + 1)))) ⟨(h.push (PySem.W.kdv_tup [])).push (excO C h.objs.size), g, d, t, os⟩) :
    codeAny (model prog w) A (.builtin newId ⟨[.ref C], kw⟩) R ⟨h, g, d, t, os⟩ := by
  have ends := FB.ends
  have inB : (Value.ref C :: bm).contains (.type B) = true := by
    rw [List.contains_cons, hT, FB.hasB, Bool.or_true]
  have inA : (Value.ref C :: bm).contains (.type "AttributeError") = false := by
    rw [List.contains_cons, hT, FB.noAttr]
    rfl
  have inN : (Value.ref C :: bm).contains (.type "NameError") = false := by
    rw [List.contains_cons, hT, FB.noName]
    rfl
  refine codeAny_builtinAt FB.entry ?_
  unfold Builtin.«BaseException.__new__»
  refine PySem.wpAt_bind ?_
  show PySem.wpAt _ _ _ (stack >>= _) _ _ _
  refine PySem.wpAt_bind (PySem.wpAt_stack fun _ _ => PySem.wpAt_of_wpAny ?_)
  wp_walk
  refine PySem.wpAt_of_wpAny ?_
  rw [FB.owner]
  repeat (first
    | with_reducible refine wpAny_madeHere_exc FB.canon hC ?_
    | with_reducible refine wpAny_loadPart_at hC ?_
    | (with_reducible refine wpAny_isSubtype_exc hC ?_
       first | rw [inB] | rw [inA] | rw [inN])
    | wp_step)
  show R _ _
  rw [Heap.size_push]
  exact hq
theorem tyK_call (FB : ExcBaseFacts B newId initId bmB) (hT : ∀ X : String, bm.contains (.type X) = bmB.contains (.type X)) {fI : Addr} {Q : Fin → Shared → Prop}
    (hC : h.get? C = some (excClassObj nm q C N bs bm hdct sn sub ab col dd k0 k1 k2 k3 k5 newId))
    (hi : W.Looks (model prog w) h (typeLookup (.ref C) "__init__") (some (.ref fI))) (hb : ∀ self, W.Looks (model prog w) h (bindSpecial (.ref fI) self) (.ref fI, [self]))
    (hq : codeAny (model prog w) A (.call (.ref fI) ⟨[.ref (h.objs.size + 1)], kw⟩)
      (fun r s' => match r with | .ok (.ret v) => v = .none ∧ Q (.done (.ret (.ref (h.objs.size + 1)))) s' | .ok _ => False | .error e => E e s')
      ⟨(h.push (PySem.W.kdv_tup [])).push (excO C h.objs.size), g, d, t, os⟩) :
    wpAny (model prog w) A (Builtin.«type.__call__» ⟨[.ref C], kw⟩) Q E ⟨h, g, d, t, os⟩ := by
  repeat (first
    | with_reducible refine wpAny_loadPart_at hC ?_
    | with_reducible refine wpAny_madeBy_exc hC ?_
    | wp_step)
  refine codeAny_call_builtin_code (Code.quiet_builtin _ FB.quiet) (newK_check FB hT hC ?_)
  refine newK_code FB hT hC ?_
  show wpAny _ _ _ _ _ _
  have kk : ∀ b o, h.get? b = some o → ((h.push (PySem.W.kdv_tup [])).push (excO C h.objs.size)).get? b = some o := fun b o z => Heap.get?_push_of_some _ (Heap.get?_push_of_some _ z)
  have hC2 := kk _ _ hC
  have he2 : ((h.push (PySem.W.kdv_tup [])).push (excO C h.objs.size)).get? (h.objs.size + 1) = some (excO C h.objs.size) := by heap_get
  have inC : (Value.ref C :: bm).contains (.ref C) = true := by simp
  have i2 := hi.keeps kk
  have b2 := (hb (.ref (h.objs.size + 1))).keeps kk
  unfold isInstance
  repeat (first
    | with_reducible refine wpAny_loadPart_at he2 ?_
    | (with_reducible refine wpAny_isSubtype_exc hC2 ?_
       rw [inC])
    | wp_step)
  show wpAny _ _ (typeLookup (.ref C) _) _ _ _
  refine i2.at ?_
  refine wpAny_holding (wpAny_bind (b2.at ?_))
  refine wpAny_bind (wpAny_call (codeAny_mono hq fun r s' z => ?_))
  rcases r with e | (v | _ | _ | _)
  · exact z
  · exact z.elim
  · exact z.elim
  · exact z.elim
  · obtain ⟨rfl, z⟩ := z
    first
      | exact wpAny_pure (wpAny_pure z)
      | (wp_walk; exact z)
theorem callK_own (FB : ExcBaseFacts B newId initId bmB) (hT : ∀ X : String, bm.contains (.type X) = bmB.contains (.type X)) {fI : Addr}
    (hC : h.get? C = some (excClassObj nm q C N bs bm hdct sn sub ab col dd k0 k1 k2 k3 k5 newId))
    (hi : W.Looks (model prog w) h (typeLookup (.ref C) "__init__") (some (.ref fI))) (hb : ∀ self, W.Looks (model prog w) h (bindSpecial (.ref fI) self) (.ref fI, [self]))
    (hq : codeAny (model prog w) (A.under (.builtin "type.__call__" ⟨[.ref C], kw⟩)) (.call (.ref fI) ⟨[.ref (h.objs.size + 1)], kw⟩) (W.InitBack (h.objs.size + 1) R)
      ⟨(h.push (PySem.W.kdv_tup [])).push (excO C h.objs.size), g, d, t, os⟩) :
    codeAny (model prog w) A (.call (.ref C) ⟨[], kw⟩) R ⟨h, g, d, t, os⟩ := by
  have f1 := tc_lookup
  have f2 := tc_bind (.ref C)
  have hTy : (⟨h, g, d, t, os⟩ : Shared).TypeIs (.ref C) "type" := ⟨_, hC, rfl⟩
  refine codeAny_of_tree ?_
  show wpAny _ _ (callAny (.ref C) _) _ _ _
  repeat (any_goals (first
    | assumption
    | with_reducible refine wpAny_loadPart_at hC ?_
    | wp_step))
  refine ⟨rfl, ?_⟩
  refine codeAny_call_builtin_at (Code.quiet_builtin _ (by decide +kernel)) entry_typeCall (wpAny_check_type_call_sub hC (tyK_call FB hT hC hi hb ?_))
  refine codeAny_mono hq fun r s' z => ?_
  rcases r with e | (v | _ | _ | _) <;> exact z
end
end Err
set_option maxHeartbeats 4000000
namespace Err
open PySem PySem.Spec PyProof.Rows L2 NdefX
/-- a class of errors that keeps one attribute: all that is asked of the text and of what the top has written -/
structure One (P : Program) (K : PySem.W.Frag) (C : Addr) (p : Str) : Prop where
  ex : ∃ (fI cc cd : Addr) (st : Stmt) (qual msg : Str) (q1 q2 q3 q4 q5 q6 q7 q8 q9 q10 : Pos) (pl : Sem Bool), Made P K C fI cc cd st qual p ∧
    NScope ["self", p, "__class__"] ["self", p] ["__class__"] (defScope st) ∧
    defBody st = [.Expr (.Call (.Attribute (.Call (.Name "super" q1) [] [] q2) "__init__" q3) [.Constant (.str msg) 0 q4] [] q5) q6, .Assign [.Attribute (.Name "self" q7) p q8] (.Name p q9) q10] ∧
    (∀ env, SupEv q1 q2 q3 q4 q5 msg pl env) ∧ (defScope st).names.lookup ("super" : Str) = some .globalImplicit ∧ ((defArgs st).posonlyargs ++ (defArgs st).args).head?.map (·.arg) = some ("self" : Str) ∧
    (p == ("__debug__" : Str)) = false ∧ (p == ("__classdict__" : Str)) = false ∧ (∀ env, swapsWith (.Name p q9) (some (.Attribute (.Name "self" q7) p q8)) q10.line env = pure false) ∧
    (∀ kV doc pm an ct e u, bindArgs (PySem.W.fnX "__init__" qual (defArgs st) (defBody st) (defScope st) [("__class__", cc)] .none kV doc pm an (.ref cd) ct) ⟨[e, u], []⟩ = pure [(("self" : Str), e), (p, u)]) ∧
    (∀ kV doc pm an ct e u, bindArgs (PySem.W.fnX "__init__" qual (defArgs st) (defBody st) (defScope st) [("__class__", cc)] .none kV doc pm an (.ref cd) ct) ⟨[e], [(p, u)]⟩ = pure [(("self" : Str), e), (p, u)])
/-- the reading: a new error a, with a dict d of its own -/
def tErr (C : Addr) (p : Str) (te : TE) : TE := fun σ H Q => te σ H fun v H1 => ∀ a d, H1 a = none → H1 d = none → d ≠ a → Q (.ref a) (upd (upd H1 d (exd d [(p, v)])) a (exo a C (some d)))
section
variable {X : Cx} {C : Addr} {p x : Str} {e : Expr} {te : TE} {cp pos : Pos}
theorem upd_swap (H : Hp) {a d : Addr} (o1 o2 o3 : HO) (h : d ≠ a) : upd (upd (upd H a o1) d o2) a o3 = upd (upd H d o2) a o3 := by
  funext b
  by_cases hb : b = a
  · rw [hb, upd_same, upd_same]
  · rw [upd_ne hb, upd_ne hb]
    by_cases hd : b = d
    · rw [hd, upd_same, upd_same]
    · rw [upd_ne hd, upd_ne hd, upd_ne hb]
theorem err_new {pins : List (Addr × Obj)} {σ : L2.St} {H : Hp} {s : Shared} {Q : VK} {u : Value} {v : V} (T : One X.prog X.K C p) (ms : X.mg "super" = none) (hr : Room 1 X.A) (I : Inv X pins σ H s) (ru : L2.RelV v u)
    (hq : ∀ a d, H a = none → H d = none → d ≠ a → Q (.ref a) (upd (upd H d (exd d [(p, v)])) a (exo a C (some d)))) (us : List Value) (kw : List (Str × Value)) (hus : (us = [u] ∧ kw = []) ∨ (us = [] ∧ kw = [(p, u)])) :
    wpAny (model X.prog X.w) X.A (call (.ref C) us kw) (EP X pins σ Q) X.xe s := by
  obtain ⟨fI, cc, cd, st, qual, msg, q1, q2, q3, q4, q5, q6, q7, q8, q9, q10, pl, M, S, hb, hev, hks, hpa, hpd, hpc, hsw, b1, b2⟩ := T.ex
  obtain ⟨nm, q, N, bs, bm, sn, sub, ab, col, dd, k0, k1, k2, k3, k5, hC, hbm⟩ := M.T.cls
  obtain ⟨hp, g, dr, tk, os⟩ := s
  have hsz : hp.objs.size ≤ hp.objs.size + 1 := Nat.le_succ _
  have hn : H (hp.objs.size + 1) = none := I.hok.fresh hsz
  have kk : ∀ vs b o, hp.get? b = some o → ((hp.push (PySem.W.kdv_tup vs)).push (PySem.HandSPX.excO C hp.objs.size)).get? b = some o := fun vs b o z => Heap.get?_push_of_some _ (Heap.get?_push_of_some _ z)
  have hget : ∀ vs, ((hp.push (PySem.W.kdv_tup vs)).push (PySem.HandSPX.excO C hp.objs.size)).get? (hp.objs.size + 1) = some (PySem.HandSPX.excO C hp.objs.size) := fun vs => by heap_get
  have I2 : ∀ vs, Inv X pins σ (upd H (hp.objs.size + 1) (exo (hp.objs.size + 1) C none)) ⟨(hp.push (PySem.W.kdv_tup vs)).push (PySem.HandSPX.excO C hp.objs.size), g, dr, tk, os⟩ := fun vs =>
    I.laid (t' := tk) (a := hp.objs.size + 1) (o := exo (hp.objs.size + 1) C none) (h' := (hp.push (PySem.W.kdv_tup vs)).push (PySem.HandSPX.excO C hp.objs.size)) (kk vs) hsz (exo_ok (hget vs))
  have hT := fun Y => PySem.HandSPX.refsVE_contains Y bm hbm
  have fin : ∀ (vs : List Value) (r : Result) (s' : Shared),
      CR CX0 X.stack X.prog X.w (upd H (hp.objs.size + 1) (exo (hp.objs.size + 1) C none)) ⟨(hp.push (PySem.W.kdv_tup vs)).push (PySem.HandSPX.excO C hp.objs.size), g, dr, tk, os⟩ (fun v H' => v = .non ∧ Q (.ref (hp.objs.size + 1)) H') (fun _ _ _ => False) r s' →
      PySem.W.InitBack (hp.objs.size + 1) (fun r s' => match r with | .ok (.ret v) => EP X pins σ Q v s' | .ok _ => False | .error e => X.xe e s') r s' := fun vs r s' hr => by
    cases r with
    | error er => exact False.elim hr
    | ok fl =>
      cases fl with
      | ret w' =>
        obtain ⟨v', H', J, rv, ev, q'⟩ := (I2 vs).after hr
        subst ev
        exact ⟨rv, .ref (hp.objs.size + 1), H', J, rfl, q'⟩
      | next => exact False.elim hr
      | brk => exact False.elim hr
      | cont => exact False.elim hr
  have last : ∀ d, upd H (hp.objs.size + 1) (exo (hp.objs.size + 1) C none) d = none → d ≠ hp.objs.size + 1 →
      V.non = V.non ∧ Q (.ref (hp.objs.size + 1)) (upd (upd (upd H (hp.objs.size + 1) (exo (hp.objs.size + 1) C none)) d (exd d [(p, v)])) (hp.objs.size + 1) (exo (hp.objs.size + 1) C (some d))) := fun d nd ne => by
    rw [upd_ne ne] at nd
    rw [upd_swap _ _ _ _ ne]
    exact ⟨rfl, hq _ d hn nd ne⟩
  rcases hus with ⟨rfl, rfl⟩ | ⟨rfl, rfl⟩
  · refine wpAny_call (PySem.HandSPX.call_own F.excBase_ValueError hT (I.kIn _ _ hC) (PySem.W.looks_findIn I.kIn M.iC) (fun self => PySem.W.bind_fn I.kIn self M.tI) (by show 1 ≤ sizeLine; decide)
      (codeAny_mono (init_code M S hb hev hks hpa hpd hpc hsw ms (hr.make C [u] []) ((I2 [u]).env0.make C [u] []) upd_same ru (fun kV doc pm an ct => .of_eq (b1 _ _ _ _ _ _ _)) last) fun r s' h => fin [u] r s' h))
  · refine wpAny_call (callK_own F.excBase_ValueError hT (I.kIn _ _ hC) (PySem.W.looks_findIn I.kIn M.iC) (fun self => PySem.W.bind_fn I.kIn self M.tI)
      (codeAny_mono (init_code M S hb hev hks hpa hpd hpc hsw ms (hr.make C [] [(p, u)]) ((I2 []).env0.make C [] [(p, u)]) upd_same ru (fun kV doc pm an ct => .of_eq (b2 _ _ _ _ _ _ _)) last) fun r s' h => fin [] r s' h))
/-- C(e) -/
theorem pe_err (T : One X.prog X.K C p) (ms : X.mg "super" = none) (hr : Room 1 X.A) (hg : Gl X x) (hm : X.mg x = some (.ref C)) (kC : PySem.W.keepIn X.K (.ref C) = true) (he : PE X e te)
    (hs : starEach [e] X.env = (false, eval e X.env) :: starEach [] X.env := by rfl) (hdb : (x == ("__debug__" : Str)) = false := by decide) : PE X (.Call (.Name x cp) [e] [] pos) (tErr C p te) := by
  refine ⟨fun pins s σ H Q I h => ?_⟩
  refine wpAny_Call_Name_kw (ld_glob I hg hm ?_ hdb)
  refine PySem.W.callWith_K (h₀ := X.base) I.ok.mod.kin kC ?_ hs (by rfl)
  rw [hs]
  show wpAny _ _ (spliced ((false, eval e X.env) :: backTo pos (starEach [] X.env))) _ _ s
  refine Calls.spliced_cons (thn (he.run pins s σ H _ I h) fun u s1 ⟨v, H1, I1, r1, q1⟩ => ?_)
  refine Calls.spliced_nil ⟨I1.kIn, ?_⟩
  exact err_new T ms hr I1 r1 q1 [u] [] (.inl ⟨rfl, rfl⟩)
end
end Err
set_option maxHeartbeats 4000000
namespace Err
open PySem PySem.Spec PyProof.Rows L2 NdefX
section
variable {X : Cx} {C : Addr} {p x : Str} {e : Expr} {te : TE} {cp kp pos : Pos}
/-- C(p=e) -/
theorem pe_errK (T : One X.prog X.K C p) (ms : X.mg "super" = none) (hr : Room 1 X.A) (hg : Gl X x) (hm : X.mg x = some (.ref C)) (kC : PySem.W.keepIn X.K (.ref C) = true) (he : PE X e te)
    (hall : (backToKw pos (keywordEach [⟨some p, e, kp⟩] X.env)).all (·.1.isSome) = true := by rfl) (hks : (backToKw pos (keywordEach [⟨some p, e, kp⟩] X.env)).filterMap (·.1) = [p] := by rfl)
    (hpl : ((backTo pos (starEach [] X.env)).any (·.1) || (backToKw pos (keywordEach [⟨some p, e, kp⟩] X.env)).any (·.1.isNone)) = false := by rfl)
    (hdb : (x == ("__debug__" : Str)) = false := by decide) : PE X (.Call (.Name x cp) [] [⟨some p, e, kp⟩] pos) (tErr C p te) := by
  refine ⟨fun pins s σ H Q I h => ?_⟩
  refine wpAny_Call_Name_kw (ld_glob I hg hm ?_ hdb)
  refine PySem.W.callWith_KW0 (h₀ := X.base) I.ok.mod.kin kC hall ?_ hpl
  refine thn ((pk_cons he pk_nil).run pos pins s σ H (fun vs H1 => match vs with | [v] => ∀ a d, H1 a = none → H1 d = none → d ≠ a → Q (.ref a) (upd (upd H1 d (exd d [(p, v)])) a (exo a C (some d))) | _ => False) I h) fun ws s1 ⟨zs, H1, I1, rz, q⟩ => ⟨I1.kIn, ?_⟩
  rw [hks]
  cases rz with
  | nil => exact False.elim q
  | cons r1 r2 =>
    cases r2 with
    | nil => exact err_new T ms hr I1 r1 q [] _ (.inr ⟨rfl, rfl⟩)
    | cons _ _ => exact False.elim q
/-- an error stands at a: with no dict, or with one of its own -/
def ExAt (H : Hp) (a C : Addr) : Prop := H a = some (ExO (.ref C) a) ∨ ∃ d fs, H a = some (exo a C (some d)) ∧ H d = some (exd d fs)
/-- what a class of errors must say so that isinstance asks rightly -/
structure Isi (K : PySem.W.Frag) (C : Addr) : Prop where
  cl : (PySem.W.clsIn K C).isSome = true
  ga : PySem.W.findIn K (.ref C) "__getattribute__" = some (some (.builtin "BaseException.__getattribute__"))
  gt : PySem.W.findIn K (.ref C) "__getattr__" = some none
  sb : PySem.W.subIn K (.ref C) (.type "BaseException") = some true
  ca : PySem.W.findIn K (.ref C) "__class__" = some (some (.builtin "object.__class__"))
  gs : PySem.W.specialIn K (.builtin "object.__class__") "__get__" = some (some (.builtin "getset_descriptor.__get__"))
  tk : PySem.W.takesIn K (.builtin "object.__class__") = some true
  ob : PySem.W.mroIn K C (.type "object") = some true
  hd : PySem.W.hasDictIn K C = true
theorem ExAt.inst {pins : List (Addr × Obj)} {σ : L2.St} {H : Hp} {s : Shared} {a : Addr} (I : Inv X pins σ H s) (h : ExAt H a C) : ∃ ox od, PySem.W.InstAt s.heap a ox C od := by
  rcases h with h | ⟨d, fs, h, hd⟩
  · obtain ⟨⟨oe, vs, e1, z, e2, _⟩, _, _⟩ := I.hok _ _ h
    refine ⟨oe, none, e1, z.1, ?_, ?_⟩
    · unfold PySem.W.notCls
      rw [e2]
    · rw [z.2]
      exact trivial
  · obtain ⟨t1, ho⟩ := exo_at I.hok h
    obtain ⟨mA, hns, hr⟩ := exd_at I.hok hd
    obtain ⟨od, es, ep, hod, _⟩ := hns
    exact ⟨_, some od, ho, rfl, rfl, hod⟩
def rIsx (K : PySem.W.Frag) : List V → Hp → VK → Prop := fun xs H Q => ∃ (a C : Addr) (c : V) (cv : Value) (b : Bool), xs = [.ref a, c] ∧ ExAt H a C ∧ Isi K C ∧ ClsV c cv ∧ PySem.W.kitOne K (.ref C) cv = some b ∧ Q (.bl b) H
theorem call_isx : CallR X (.builtin "isinstance") (rIsx X.K) := by
  intro pins s σ H xs us Q I r h
  obtain ⟨a, C, c, cv, b, rfl, hx, T, hcv, e, q⟩ := h
  obtain ⟨ox, od, J⟩ := hx.inst I
  cases r with
  | cons rx rr =>
    cases rr with
    | cons rt rr =>
      cases rr
      cases rx
      have ec := hcv.eq rt
      subst ec
      exact PySem.W.kia_one (PySem.W.kitx_exc T.cl T.ga T.gt T.sb T.ca T.gs T.tk T.ob) I.kIn J e (fun z => nomatch z) fun tk => ⟨.bl b, H, I.kept (t' := tk) fun _ _ z => z, rfl, q⟩
/-- e.n of an error -/
def tAtt (K : PySem.W.Frag) (n : Str) (te : TE) : TE := fun σ H Q => te σ H fun x H1 => ∃ (a C d : Addr) (fs : List (Str × V)) (v : V), x = .ref a ∧ H1 a = some (exo a C (some d)) ∧ H1 d = some (exd d fs) ∧ Isi K C ∧ PySem.W.findIn K (.ref C) n = some none ∧ fs.lookup n = some v ∧ Q v H1
theorem pe_att {n : Str} (he : PE X e te) (hb : attributeBase e n X.env (eval e X.env) = eval e X.env := by rfl) : PE X (.Attribute e n pos) (tAtt X.K n te) := by
  refine ⟨fun pins s σ H Q I h => ?_⟩
  refine attr_of hb (thn (he.run pins s σ H _ I h) fun u s1 ⟨x, H1, I1, rx, a, C, d, fs, v, ex, ea, ed, T, no, l, q⟩ => ?_)
  subst ex
  obtain rfl : u = Value.ref a := rx
  obtain ⟨t1, ho⟩ := exo_at I1.hok ea
  obtain ⟨mA, hns, hr⟩ := exd_at I1.hok ed
  obtain ⟨od, hod, hl⟩ := lookIn_ns hns
  obtain ⟨u, hu, ru⟩ := RelO.some_of (v := v) (o := mA n) (by rw [← l]; exact hr n)
  have J : PySem.W.InstAt s1.heap a _ C (some od) := ⟨ho, rfl, rfl, hod⟩
  exact HandSPX.exc_get I1.kIn J T.ga T.gt T.sb (PySem.W.findObj_own T.hd no rfl (by rw [hl, hu])) (handed_of ru) ⟨v, H1, I1.tok _, ru, q⟩
end
end Err
set_option maxHeartbeats 4000000
/-! Promises of defs that ask for the text of a value: what runs around them holds no open repr. -/
namespace Gd
open PySem PySem.Spec PyProof.Rows L2
section
variable (P : Program) (w : World) (K : PySem.W.Frag) (mg : Str → Option Value) (base : Heap)
structure FnOkG (CX : CXT) (k : Nat) (f : Addr) (fd : FuncData) (ps : List Str) (sp : Sp) : Prop where
  len : ∀ vs H Q E, sp vs H Q E → vs.length = ps.length
  run : ∀ (A : Around) (outer : List Env) (s : Shared) (H : Hp) (args : Args) (us : List Value) (vs : List V) (Q : VK) (E : XK),
    Room k A → A.guards = some [] → Env0 P w K mg base A outer s H → BindsTo s fd args (ps.zip us) → Vals vs us → sp vs H Q E →
      codeAny (model P w) A (.call (.ref f) args) (CR CX outer P w H s Q E) s
end
section
variable {P : Program} {w : World} {K : PySem.W.Frag} {mg : Str → Option Value} {base : Heap} {CX : CXT} {k j : Nat} {f : Addr} {fd : FuncData} {ps : List Str} {sp : Sp}
theorem FnOkG.of (F : FnOk P w K mg base CX k f fd ps sp) : FnOkG P w K mg base CX k f fd ps sp :=
  ⟨F.len, fun A outer s H args us vs Q E hr _ e0 hb r h => F.run A outer s H args us vs Q E hr e0 hb r h⟩
theorem FnOkG.mono (F : FnOkG P w K mg base CX j f fd ps sp) (h : j ≤ k) : FnOkG P w K mg base CX k f fd ps sp :=
  ⟨F.len, fun A outer s H args us vs Q E hr => F.run A outer s H args us vs Q E (hr.mono h)⟩
theorem okG_of {name qual : Str} {params : Arguments} {body : List Stmt} {scope : Scope} {dV kV doc pm cdv ct oc : Value} {an od : Option Addr} {osl : Array (Option Value)} {N : List Str}
    (lk : K.lookup f = some ⟨oc, od, .func (PySem.W.fnOf name qual params body scope dV kV doc pm an cdv ct), osl⟩) (hcd : PySem.W.codeIn K cdv qual = true)
    (S : FnScope N ps scope) (len : ∀ vs H Q E, sp vs H Q E → vs.length = ps.length)
    (hbody : ∀ (A : Around) (outer : List Env) (s : Shared) (H : Hp) (vs : List V) (Q : VK) (E : XK), Room k (A.deeper (envOfC qual scope s.heap.objs.size f cdv)) → A.guards = some [] → sp vs H Q E →
      ∃ t, PSs (cxOf CX P w K mg base N qual scope f cdv A outer s H E) body t ∧ t { nx := fun _ H' => Q .non H', rt := Q } (start N vs) H) :
    FnOkG P w K mg base CX (k + 1) f (PySem.W.fnOf name qual params body scope dV kV doc pm an cdv ct) ps sp := by
  refine ⟨len, fun A outer s H args us vs Q E hr hg e0 hb r hsp => ?_⟩
  have eql := len _ _ _ _ hsp
  have kin : K.In s.heap := e0.mod.kin.keeps fun b o z => (e0.bs b o z).1
  have lim := e0.mod.nolimit.keeps fun b o z => (e0.bs b o z).1
  have kinds : ∀ y ∈ ps.zip us, scope.names.lookup y.1 = some .local ∨ (scope.names.lookup y.1 = some .cell ∧ ((cellsFrom (s.heap.objs.size + 1) scope.names []).lookup y.1).isSome = true) := by
    rintro ⟨n, v⟩ hy
    rcases S.par n (List.of_mem_zip hy).1 with z | z
    · exact .inl z
    · exact .inr ⟨z, PySem.W.cellsFrom_some _ _ _ (.inl z)⟩
  refine codeAny_call_function hr.depth (kin _ _ lk) rfl S.co S.gen rfl (PySem.W.codeRec_of kin hcd) (hb _ _ _ _ ?_)
  refine wpAny_newFunctionEnv_cells S.kind kinds fun env he s1 x => ?_
  subst he
  refine ⟨lim.keeps x.toInCall.keep, codeAny_func ?_⟩
  obtain ⟨t, ht, hq⟩ := hbody A outer s H vs Q E (hr.deeper _) hg hsp
  have I : Inv (cxOf CX P w K mg base N qual scope f cdv A outer s H E) [] (start N vs) H s1 := inv_start S hr.hd e0 eql r x
  refine wpAny_mono (ht.run [] s1 (start N vs) H _ I hq) (fun fl s' hs => ?_) fun _ _ z => z
  cases fl with
  | next =>
    obtain ⟨σ', H', J, q⟩ := hs
    exact ⟨.non, H', J.os, J.bare, J.base, J.hok, rfl, q⟩
  | ret u =>
    obtain ⟨v, σ', H', J, rv, q⟩ := hs
    exact ⟨v, H', J.os, J.bare, J.base, J.hok, rv, q⟩
  | brk =>
    obtain ⟨_, _, _, q⟩ := hs
    exact q.elim
  | cont =>
    obtain ⟨_, _, _, q⟩ := hs
    exact q.elim
/-- THE RULE for such a def -/
theorem okG {x qual : Str} {st : Stmt} {N : List Str} (F : Fun K x qual st f fd) (S : FnScope N ps (defScope st)) (len : ∀ vs H Q E, sp vs H Q E → vs.length = ps.length)
    (hbody : ∀ (cdv : Value) (A : Around) (outer : List Env) (s : Shared) (H : Hp) (vs : List V) (Q : VK) (E : XK), Room k (A.deeper (envOfC qual (defScope st) s.heap.objs.size f cdv)) → A.guards = some [] → sp vs H Q E →
      ∃ t, PSs (cxOf CX0 P w K mg base N qual (defScope st) f cdv A outer s H E).nox (defBody st) t ∧ t { nx := fun _ H' => Q .non H', rt := Q } (start N vs) H) :
    FnOkG P w K mg base CX0 (k + 1) f fd ps sp := by
  obtain ⟨oc, od, kV, doc, pm, an, cdv, ct, osl, rfl, lk, hcd⟩ := F.ex
  refine okG_of lk hcd S len fun A outer s H vs Q E hr hg hsp => ?_
  obtain ⟨t, h, q⟩ := hbody cdv A outer s H vs Q E hr hg hsp
  exact ⟨t, h.nox, q⟩
end
/-- a call of such a def -/
theorem callG {X : Cx} {CX : CXT} {k : Nat} {f : Addr} {fd : FuncData} {ps : List Str} {sp : Sp} {E : XK} {x : Str} {p pos : Pos} {e : Expr} {es : List Expr} {t : TA}
    (F : FnOkG X.prog X.w X.K X.mg X.base CX k f fd ps sp) (hr : Room k X.A) (gd : X.A.guards = some []) (hg : Gl X x) (hm : X.mg x = some (.ref f)) (hk : PySem.W.keepIn X.K (.ref f) = true) (hb : Binds X.K fd ps []) (hx : Passes CX X E)
    (ha : PA X (e :: es) t) (hdb : (x == ("__debug__" : Str)) = false := by decide) (he : starEach (e :: es) X.env = (false, eval e X.env) :: starEach es X.env := by rfl)
    (hpl : (backTo pos (starEach es X.env)).any (·.1) = false := by rfl) : PE X (.Call (.Name x p) (e :: es) [] pos) (tCall sp [] E t) := by
  refine ⟨fun pins s σ H Q I h => ?_⟩
  refine wpAny_Call_Name_kw (ld_glob I hg hm ?_ hdb)
  refine PySem.W.callWith_K (h₀ := X.base) I.ok.mod.kin hk (thn (ha.run pos pins s σ H _ I h) fun us s1 ⟨vs, H1, I1, r, q⟩ => ⟨I1.kIn, ?_⟩) he hpl
  have q' : sp (vs ++ []) H1 Q E := q
  rw [List.append_nil] at q'
  have hl : us.length = ps.length := by
    rw [← r.length]
    exact F.len _ _ _ _ q'
  refine wpAny_call (codeAny_mono (F.run X.A X.stack s1 H1 ⟨us, []⟩ us vs Q E hr gd I1.env0 (by have z := hb s1 us I1.kIn (by rw [List.append_nil]; exact hl); rw [List.append_nil] at z; exact z) r q') fun r s' hq => ?_)
  cases r with
  | error er => exact hx pins σ H1 s1 er s' I1 hq
  | ok fl =>
    cases fl with
    | ret u => exact I1.after hq
    | next => exact False.elim hq
    | brk => exact False.elim hq
    | cont => exact False.elim hq
end Gd
set_option maxHeartbeats 4000000
namespace Gd
open PySem PySem.Spec PyProof.Rows L2
/-- the script's list as it stands, told as the only thing that is tracked -/
def scriptH (a : Addr) (vs : List Value) (ns : List Int) : Hp := fun b => if b = a then some (.frz { cls := .type "list", data := .seq vs.toArray } (.lst (ns.map V.int))) else none
section
variable {P : Program} {w : World} {K : PySem.W.Frag} {mg mb : Str → Option Value} {k : Nat} {fa a : Addr} {fd : FuncData} {x : Str} {sp : Sp} {s : Shared} {vs : List Value} {ns : List Int} {H : Hp}
/-- the law called, over an abstract heap with nothing but the script in it -/
theorem from_heap (kin : K.In s.heap) (gl : s.heap.Ns mainGlobals mg) (bl : s.heap.Ns builtinsNs mb) (bb : ∀ x : Str, x ≠ "__name__" → mb x = bootBuiltins x) (nl : s.heap.NoLimit) (ng : s.gens = #[])
    (ho : s.heap.get? a = some { cls := .type "list", data := .seq vs.toArray }) (hr : Room k callerA)
    (F : ∀ base : Heap, K.In base → base.Ns mainGlobals mg → FnOkG P w K mg base CX0 k fa fd [x] sp) (bind : ∀ (s : Shared) (u : Value), BindsTo s fd ⟨[u], []⟩ [(x, u)])
    (hO : Only H) (hok : HOk P w H s.heap) (hA : ∀ b, H b ≠ none → b = a) (hK : H a ≠ none → K.lookup a = none) (hs : sp [.ref a] H (fun v _ => v = .bl true) fun _ _ _ => False) :
    codeAny (model P w) callerA (.call (.ref fa) ⟨[.ref a], []⟩) (fun r s' => r = .ok (.ret (.bool true)) ∧ OldK s.heap s'.heap ∧ s'.os = s.os ∧ AllBare s'.gens) s := by
  have dicts : ∀ {b : Addr} {o : Obj} {es : Array DictEntry} {ep : Nat}, s.heap.get? b = some o → o.data = .dict es ep → H b = none := by
    intro b o es ep z1 z2
    cases q : H b with
    | none => rfl
    | some u =>
      obtain rfl : b = a := hA b (by rw [q]; simp)
      rw [ho] at z1
      cases z1
      cases z2
  have space : ∀ {b : Addr} {m : Str → Option Value}, s.heap.Ns b m → (hidT s.heap H).Ns b m := by
    rintro b m ⟨o, es, ep, z1, z2, r⟩
    exact ⟨o, es, ep, hidT_get z1 (dicts z1 z2), z2, r⟩
  have kin2 : K.In (hidT s.heap H) := by
    intro b o z
    refine hidT_get (kin b o z) ?_
    cases q : H b with
    | none => rfl
    | some u =>
      obtain rfl : b = a := hA b (by rw [q]; simp)
      have no := hK (by rw [q]; simp)
      rw [no] at z
      cases z
  obtain ⟨mc, n1, n2⟩ := nl
  have md : Mod K mg (hidT s.heap H) := ⟨kin2, space gl, ⟨mb, space bl, bb⟩, mc, space n1, n2⟩
  have e0 : Env0 P w K mg (hidT s.heap H) callerA [] s H :=
    ⟨rfl, md, fun _ _ z => of_hidT z, Nat.le_of_eq (hidT_size _ _), trivial, fun b z => absurd (show b ∈ ([] : List Addr) from z) (by simp), hok, .of_eq ng⟩
  refine codeAny_mono ((F _ kin2 (space gl)).run callerA [] s H ⟨[.ref a], []⟩ [.ref a] [.ref a] _ _ hr rfl e0 (bind s (.ref a)) (.cons rfl .nil) hs) fun r s' h => ?_
  cases r with
  | error _ => exact False.elim h
  | ok fl =>
    cases fl with
    | next => exact False.elim h
    | brk => exact False.elim h
    | cont => exact False.elim h
    | ret u =>
      obtain ⟨v, H', os, bare, un, hok', rv, q⟩ := h
      obtain rfl : v = .bl true := q
      obtain rfl : u = Value.bool true := rv
      refine ⟨rfl, OldK.of_keep fun b o z => ?_, os, bare⟩
      cases hb : H b with
      | none => exact un.keep b o z hb (fun y => absurd (show b ∈ ([] : List Addr) from y) (by simp)) (by simp)
      | some u =>
        rcases hO b with y | ⟨ob, xs, y⟩
        · rw [hb] at y
          cases y
        · obtain ⟨e1, _⟩ := hok b _ y
          obtain ⟨e2, _⟩ := hok' b _ (un.frzs b ob _ y)
          rw [z] at e1
          cases e1
          exact e2
end
/-- what the head leaves, from such a promise of the law -/
theorem walkG {l : PySem.W.OpenLaw} {n k : Nat} {q : Program} {loose : List Str} {XP : (Str → Option Value) → Heap → Prop} {YP : World → Heap → Prop} {d : DefRec} {K : Params → PySem.W.Frag} {sp : World → Sp} {x : Str}
    (hn : l.most = some n) (hn2 : n ≤ sizeLine) (hdf : d.params.defaults = []) (hr : Room k callerA) (hY : ∀ (w : World) (h : Heap), YP w h → (K w.params).In h)
    (F : ∀ (w : World) (mg : Str → Option Value) (fa : Addr) (h : Heap), (K w.params).In h → h.Ns mainGlobals mg → mg d.name = some (.ref fa) →
      ∃ fd : FuncData, (∀ (s : Shared) (u : Value), BindsTo s fd ⟨[u], []⟩ [(x, u)]) ∧
        ∀ base : Heap, (K w.params).In base → base.Ns mainGlobals mg → FnOkG l.prog w (K w.params) mg base CX0 k fa fd [x] (sp w))
    (hsp : ∀ (w : World) (H : Hp) (a : Addr) (ns : List Int), ns.length ≤ n → Only H → SqL (K w.params) H a (ns.map V.int) → sp w [.ref a] H (fun v _ => v = .bl true) fun _ _ _ => False) :
    PySem.W.WalkO q loose XP YP l.row.toRowW d [] (fun f vs => PySem.call f vs) := by
  refine Att.attach_call hn hdf fun w s₀ s mg mb fa o pm cd doc a vs ns G Y ho hd hcd hmg hobj hints hlen hg => ?_
  have kin := hY w _ Y
  obtain ⟨fd, bind, hF⟩ := F w mg fa _ kin G.T.g hmg
  have len : ns.length ≤ sizeLine := Nat.le_trans hlen hn2
  have rv := vals_ints hints
  cases hk : (K w.params).lookup a with
  | some oa =>
    have z := kin a oa hk
    rw [hobj] at z
    cases z
    have hS : SqL (K w.params) (fun _ => none) a (ns.map V.int) := .inr ⟨_, vs.toArray, _, hk, rfl, rfl, rfl, by rw [List.size_toArray, hints.length]; exact len, by simpa using rv⟩
    exact from_heap kin G.T.g G.T.b G.T.builtins G.T.nolimit hg hobj hr hF bind (fun _ => .inl rfl) (fun b u y => by cases y) (fun b y => absurd rfl y) (fun y => absurd rfl y) (hsp w _ a ns hlen (fun _ => .inl rfl) hS)
  | none =>
    have at_a : scriptH a vs ns a = some (.frz { cls := .type "list", data := .seq vs.toArray } (.lst (ns.map V.int))) := if_pos rfl
    have other : ∀ b, b ≠ a → scriptH a vs ns b = none := fun b hb => if_neg hb
    have hO : Only (scriptH a vs ns) := fun b => by
      by_cases hb : b = a
      · exact .inr ⟨_, _, if_pos hb⟩
      · exact .inl (if_neg hb)
    refine from_heap kin G.T.g G.T.b G.T.builtins G.T.nolimit hg hobj hr hF bind hO (fun b u y => ?_) (fun b y => ?_) (fun _ => hk) (hsp w _ a ns hlen hO (.inl (.inr ⟨_, at_a⟩)))
    · by_cases hb : b = a
      · subst hb
        rw [at_a] at y
        cases y
        exact ⟨hobj, by rw [List.length_map]; exact len, vs, _, rv, hobj⟩
      · rw [other b hb] at y
        cases y
    · by_cases hb : b = a
      · exact hb
      · exact absurd (other b hb) y
end Gd
set_option maxHeartbeats 4000000
/-! repr of values that are data, dicts of texts among them. -/
namespace Rp
open PySem PySem.Spec PyProof.Rows L2
/-- v is to be read as the datum d -/
def Tx (K : PySem.W.Frag) (H : Hp) (v : V) (d : PyData) : Prop :=
  ∀ (X : Cx) (pins : List (Addr × Obj)) (σ : L2.St) (s : Shared), X.K = K → Inv X pins σ H s → ∀ u, L2.RelV v u → ∃ as, Reads s.heap u d as ∧ (d.hasDict = true → sysModules ∉ as)
section
variable {K : PySem.W.Frag} {H : Hp}
theorem Tx.dp {v : V} {d : PyData} (h : Dp K H v d) (n : d.hasDict = false) : Tx K H v d := by
  rintro X pins σ s rfl I u ru
  obtain ⟨as, r⟩ := Dp.reads I d v u h ru
  exact ⟨as, r, fun z => by rw [n] at z; cases z⟩
theorem rep_dict {d : PyData} {n : Nat} : PyData.hasDictAll (List.replicate (n + 1) d) = d.hasDict := by
  induction n with
  | zero => show (d.hasDict || false) = d.hasDict; rw [Bool.or_false]
  | succ n ih =>
    show (d.hasDict || PyData.hasDictAll (List.replicate (n + 1) d)) = d.hasDict
    rw [ih, Bool.or_self]
theorem Tx.rep {l : Addr} {v : V} {d : PyData} {n : Nat} (h : H l = some (.lst (List.replicate (n + 1) v))) (hv : Tx K H v d) (hm : ∃ o, K.lookup sysModules = some o) : Tx K H (.ref l) (.list (List.replicate (n + 1) d)) := by
  rintro X pins σ s rfl I u ru
  obtain rfl : u = Value.ref l := ru
  obtain ⟨hz, its, m, rv, ho⟩ := I.hok _ _ h
  have all : ∀ (k : Nat) (us : List Value), Vals (List.replicate k v) us → ∃ as, ReadsAll s.heap us (List.replicate k d) as ∧ (d.hasDict = true → sysModules ∉ as) := by
    intro k
    induction k with
    | zero =>
      intro us r
      cases r
      exact ⟨[], .nil, fun _ => by simp⟩
    | succ k ih =>
      intro us r
      cases r with
      | cons r1 r2 =>
        obtain ⟨as, q1, z1⟩ := hv X pins σ s rfl I _ r1
        obtain ⟨bs, q2, z2⟩ := ih _ r2
        exact ⟨as ++ bs, .cons q1 q2, fun z => by
          intro y
          rcases List.mem_append.mp y with y | y
          · exact z1 z y
          · exact z2 z y⟩
  obtain ⟨as, q, z⟩ := all _ _ rv
  refine ⟨l :: as, Reads.list ho rfl rfl (by simpa using q), fun y => ?_⟩
  have y' : d.hasDict = true := (rep_dict (d := d) (n := n)).symm.trans y
  intro w
  rcases List.mem_cons.mp w with w | w
  · obtain ⟨o, e⟩ := hm
    have z2 := (I.bs _ _ (I.ok.mod.kin _ _ e)).2
    rw [w, h] at z2
    cases z2
  · exact z y' w
end
/-- the same, and no list on the way is the table of modules -/
def Ty (K : PySem.W.Frag) (H : Hp) (v : V) (d : PyData) : Prop :=
  ∀ (X : Cx) (pins : List (Addr × Obj)) (σ : L2.St) (s : Shared), X.K = K → Inv X pins σ H s → ∀ u, L2.RelV v u → ∃ as, Reads s.heap u d as ∧ sysModules ∉ as
def kD : Key → PyData
  | .inl i => .int i
  | .inr x => .str x
section
variable {K : PySem.W.Frag} {H : Hp}
theorem Ty.tx {v : V} {d : PyData} (h : Ty K H v d) : Tx K H v d := fun X pins σ s e I u ru =>
  let ⟨as, r, z⟩ := h X pins σ s e I u ru
  ⟨as, r, fun _ => z⟩
theorem Ty.tup0 {a : Addr} (h : H a = some (.tup [])) : Ty K H (.ref a) (.tuple []) := by
  rintro X pins σ s rfl I u ru
  obtain rfl : u = Value.ref a := ru
  obtain ⟨its, rv, ⟨o, ho, hc, n, hd⟩, _⟩ := I.tuple (SqT.of h)
  cases rv
  exact ⟨[], Reads.tuple ho hc hd .nil, by simp⟩
theorem Ty.dK {a : Addr} {kvs : List (Key × V)} {ds : List PyData} (h : H a = some (.dK kvs)) (hd : Paired (fun (kv : Key × V) d => Ty K H kv.2 d) kvs ds) : Ty K H (.ref a) (.dict ((kvs.map fun kv => kD kv.1).zip ds)) := by
  rintro X pins σ s rfl I u ru
  obtain rfl : u = Value.ref a := ru
  obtain ⟨hz, hs, vs, rel, o, es, ep, ho, ⟨hc, _, _⟩, hdat, _, hp, _⟩ := I.hok _ _ h
  have all : ∀ (es : List DictEntry) (vs : List (Key × Value)) (kvs : List (Key × V)) (ds : List PyData), Pairs (mixKind X.prog X.w) es vs → KV kvs vs → Paired (fun (kv : Key × V) d => Ty X.K H kv.2 d) kvs ds →
      ReadsAll s.heap (es.map (·.key)) (((kvs.map fun kv => kD kv.1).zip ds).map (·.1)) [] ∧ ∃ bs, ReadsAll s.heap (es.map (·.val)) (((kvs.map fun kv => kD kv.1).zip ds).map (·.2)) bs ∧ sysModules ∉ bs := by
    intro es vs kvs ds p
    induction p generalizing kvs ds with
    | nil =>
      intro r q
      cases r
      cases q
      exact ⟨.nil, [], .nil, by simp⟩
    | @cons e kv es vs k1 k2 _ ih =>
      intro r q
      cases r with
      | @cons kv' _ kvs' _ r1 r2 =>
        cases q with
        | @cons _ d _ ds' q1 q2 =>
          obtain ⟨i1, bs, i2, i3⟩ := ih _ _ r2 q2
          obtain ⟨as, z1, z2⟩ := q1 X pins σ s rfl I _ r1.2
          have ek : Reads s.heap e.key (kD kv'.1) [] := by
            have k1' : keyIs kv.1 e.key = true := k1
            rw [← r1.1] at k1'
            rcases keyIs_shape k1' with ⟨i, t, e1, e2⟩ | ⟨x, t, e1, e2⟩
            · rw [e1, e2]
              exact .int i t
            · rw [e1, e2]
              exact .str x t
          refine ⟨.cons ek i1, as ++ bs, .cons (by show Reads s.heap e.val d as; rw [k2]; exact z1) i2, fun w => ?_⟩
          rcases List.mem_append.mp w with w | w
          · exact z2 w
          · exact i3 w
  obtain ⟨i1, bs, i2, i3⟩ := all _ _ _ _ hp rel hd
  refine ⟨_, Reads.dict ho hc hdat i1 i2, fun w => ?_⟩
  rcases List.mem_append.mp w with w | w
  · rcases List.mem_cons.mp w with w | w
    · rw [← w] at hs
      simp at hs
    · simp at w
  · exact i3 w
end
/-- repr(v) -/
def rRp (K : PySem.W.Frag) : List V → Hp → VK → Prop := fun xs H Q => ∃ v d, xs = [v] ∧ Tx K H v d ∧ d.showable = true ∧ d.depth ≤ 60 ∧ d.shown.length ≤ sizeLine ∧ Q (.str d.shown) H
theorem call_rp {X : Cx} (gd : X.A.guards = some []) (hu : X.A.units + 64 < cLine) : CallR X (.builtin "repr") (rRp X.K) := by
  intro pins s σ H xs us Q I r h
  obtain ⟨v, d, rfl, hv, hs, hd, hz, q⟩ := h
  obtain ⟨u, rfl, ru⟩ : ∃ u, us = [u] ∧ L2.RelV v u := by
    cases r with
    | cons r1 r2 =>
      cases r2
      exact ⟨_, rfl, r1⟩
  obtain ⟨as, rd, hm⟩ := hv X pins σ s rfl I u ru
  have fin : ∀ h' u tk, (∀ b o, s.heap.get? b = some o → h'.get? b = some o) → EP X pins σ Q (.str d.shown u) { s with heap := h', toks := tk } := fun h' u tk k => ⟨.str d.shown, H, I.kept k, ⟨u, rfl⟩, q⟩
  have tok : ∀ u tk, EP X pins σ Q (.str d.shown u) { s with toks := tk } := fun u tk => fin s.heap u tk fun _ _ z => z
  cases rd with
  | none => exact PySem.P.repr_of_none (tok _ _)
  | bool b => exact PySem.P.repr_of_bool (tok _ _)
  | int i t => exact PySem.P.repr_of_int (of_decide_eq_true hs) (tok _ _)
  | str x t => exact PySem.P.repr_of_str (tok _ _) hz
  | list h1 h2 h3 h4 => exact repr_of_reads' (.list h1 h2 h3 h4) hs hm gd (by omega) (fun _ _ z => z) (fun h' u tk k => fin h' u tk k) hz
  | tuple h1 h2 h3 h4 => exact repr_of_reads' (.tuple h1 h2 h3 h4) hs hm gd (by omega) (fun _ _ z => z) (fun h' u tk k => fin h' u tk k) hz
  | dict h1 h2 h3 h4 h5 => exact repr_of_reads' (.dict h1 h2 h3 h4 h5) hs hm gd (by omega) (fun _ _ z => z) (fun h' u tk k => fin h' u tk k) hz
end Rp
set_option maxHeartbeats 4000000
namespace Kn
open PySem PySem.Spec PyProof.Rows L2 Err
abbrev vBases : List Value := [.type "ValueError", .type "Exception", .type "BaseException", .type "object"]
/-- what the top has written of the classes -/
structure Top (P : Program) (K : PySem.W.Frag) (mg : Str → Option Value) where
  S : Addr
  c : Nat → Addr
  mgS : mg "StillError" = some (.ref S)
  mgc : ∀ i, i < 60 → mg (NM.getD i "") = some (.ref (c i))
  kpS : PySem.W.keepIn K (.ref S) = true
  kp : ∀ i, i < 60 → PySem.W.keepIn K (.ref (c i)) = true
  isS : Isi K S
  is : ∀ i, i < 60 → Isi K (c i)
  kit : ∀ i j, i < 60 → j < 60 → PySem.W.kitOne K (.ref (c i)) (.ref (c j)) = some (decide (j = i))
  kitS : ∀ i, i < 60 → PySem.W.kitOne K (.ref (c i)) (.ref S) = some true
  kitV : ∀ i, i < 60 → PySem.W.kitOne K (.ref (c i)) (.type "ValueError") = some true
  none : ∀ j, j < 60 → PySem.W.kitOne K (.ref S) (.ref (c j)) = some false
  SV : PySem.W.kitOne K (.ref S) (.type "ValueError") = some true
  exS : PySem.W.excIn K S vBases "ValueError.__new__" = true
  ex : ∀ i, i < 40 → PySem.W.excIn K (c i) vBases "ValueError.__new__" = true
  one : ∀ i, i < 20 → One P K (c (40 + i)) (AT.getD i "")
  no : ∀ i, i < 20 → PySem.W.findIn K (.ref (c (40 + i))) (AT.getD i "") = some Option.none
  isn : mg "isinstance" = Option.none
  sup : mg "super" = Option.none
theorem _root_.Err.ExAt.same {H H' : Hp} {a C : Addr} (h : ExAt H a C) (s : Same H H') : ExAt H' a C := by
  rcases h with h | ⟨d, fs, h, hd⟩
  · exact .inl (s _ _ h)
  · exact .inr ⟨d, fs, s _ _ h, s _ _ hd⟩
abbrev tIs (K : PySem.W.Frag) (c : Addr) : TE := tCB (rIsx K) (tCons (tVar 0) (tCons (tC (.ref c)) tNil))
theorem three {K : PySem.W.Frag} {D a l c0 c1 c2 : Addr} {xs : List V} {H : Hp} {Dn : Ends} {b0 b1 b2 : Bool} (hx : ExAt H a D) (hI : Isi K D) (k0 : PySem.W.kitOne K (.ref D) (.ref c0) = some b0)
    (k1 : PySem.W.kitOne K (.ref D) (.ref c1) = some b1) (k2 : PySem.W.kitOne K (.ref D) (.ref c2) = some b2) (hl : H l = some (.lst xs)) (hz : xs.length ≤ 900)
    (q : ∀ l' H', Same H H' → H l' = none → H' l' = some (.lst (xs ++ [.bl b0, .bl b1, .bl b2])) → Dn.nx [some (.ref a), some (.ref l')] H') :
    (tAsg (tOp rCat (tVar 1) (tLst (tCons (tIs K c0) (tCons (tIs K c1) (tCons (tIs K c2) tNil))))) (gName 1)) Dn [some (.ref a), some (.ref l)] H := by
  refine ⟨_, rfl, _, rfl, a, D, _, _, b0, rfl, hx, hI, .own c0, k0, _, rfl, a, D, _, _, b1, rfl, hx, hI, .own c1, k1, _, rfl, a, D, _, _, b2, rfl, hx, hI, .own c2, k2, by show 3 ≤ sizeLine; decide, fun p np => ?_⟩
  have lp : l ≠ p := ne_of_none hl np
  refine ⟨l, p, xs, _, rfl, rfl, by rw [upd_ne lp]; exact hl, upd_same, ?_, fun r nr => ?_⟩
  · have z : (900 : Nat) + 3 < sizeLine := by decide
    show xs.length + 3 ≤ sizeLine
    omega
  · exact q r _ (fun b o z => by rw [upd_ne (ne_of_none ((same_new np) b o z) nr)]; exact same_new np b o z) ((same_new np).free nr) upd_same
abbrev sFormer : Stmt := topS 68
abbrev sLatter : Stmt := topS 69
theorem scF : FnScope ["_law_error", "_law_found"] ["_law_error"] (defScope sFormer) := ⟨rfl, rfl, rfl, by decide +kernel, rfl, by decide +kernel, by decide +kernel⟩
theorem scL : FnScope ["_law_error", "_law_found"] ["_law_error"] (defScope sLatter) := ⟨rfl, rfl, rfl, by decide +kernel, rfl, by decide +kernel, by decide +kernel⟩
def spIs (c : Nat → Addr) (K : PySem.W.Frag) (lo : Nat) : Sp := fun vs H Q _ => ∃ (a D : Addr) (b : Nat → Bool), vs = [.ref a] ∧ ExAt H a D ∧ Isi K D ∧ (∀ j, j < 60 → PySem.W.kitOne K (.ref D) (.ref (c j)) = some (b j)) ∧
  ∀ l H', Same H H' → H l = none → H' l = some (.lst ((List.range 30).map fun j => V.bl (b (lo + j)))) → Q (.ref l) H'
section
variable {P : Program} {w : World} {K : PySem.W.Frag} {mg : Str → Option Value} {base : Heap}
theorem ok_former {f : Addr} {fd : FuncData} (F : Fun K "_law_former" "_law_former" sFormer f fd) (T : Top P K mg) : FnOk P w K mg base CX0 1 f fd ["_law_error"] (spIs T.c K 0) := by
  have S := scF
  refine F.ok S (fun vs H Q E h => ?_) (fun cdv A outer s H vs Q E hr h => ?_)
  · obtain ⟨a, D, b, rfl, _⟩ := h
    rfl
  · obtain ⟨a, D, b, rfl, hx, hI, kb, q⟩ := h
    refine ⟨_, pss_cons (ps_set (i := 1) S.nd rfl (.inl rfl) (pe_lst pa_nil))
      (pss_cons (ps_set (i := 1) S.nd rfl (.inl rfl) (pe_op op_cat (pv 1) (pe_lst (pa_cons (pe_callB call_isx (by rfl) T.isn PyProof.Rows.boot_isinstance (pa_cons (pv 0) (pa_cons (pe_glob (v := .ref (T.c 0)) (by rfl) (T.mgc 0 (by decide)) rfl) pa_nil))) (pa_cons (pe_callB call_isx (by rfl) T.isn PyProof.Rows.boot_isinstance (pa_cons (pv 0) (pa_cons (pe_glob (v := .ref (T.c 1)) (by rfl) (T.mgc 1 (by decide)) rfl) pa_nil))) (pa_cons (pe_callB call_isx (by rfl) T.isn PyProof.Rows.boot_isinstance (pa_cons (pv 0) (pa_cons (pe_glob (v := .ref (T.c 2)) (by rfl) (T.mgc 2 (by decide)) rfl) pa_nil))) pa_nil))))))
      (pss_cons (ps_set (i := 1) S.nd rfl (.inl rfl) (pe_op op_cat (pv 1) (pe_lst (pa_cons (pe_callB call_isx (by rfl) T.isn PyProof.Rows.boot_isinstance (pa_cons (pv 0) (pa_cons (pe_glob (v := .ref (T.c 3)) (by rfl) (T.mgc 3 (by decide)) rfl) pa_nil))) (pa_cons (pe_callB call_isx (by rfl) T.isn PyProof.Rows.boot_isinstance (pa_cons (pv 0) (pa_cons (pe_glob (v := .ref (T.c 4)) (by rfl) (T.mgc 4 (by decide)) rfl) pa_nil))) (pa_cons (pe_callB call_isx (by rfl) T.isn PyProof.Rows.boot_isinstance (pa_cons (pv 0) (pa_cons (pe_glob (v := .ref (T.c 5)) (by rfl) (T.mgc 5 (by decide)) rfl) pa_nil))) pa_nil))))))
      (pss_cons (ps_set (i := 1) S.nd rfl (.inl rfl) (pe_op op_cat (pv 1) (pe_lst (pa_cons (pe_callB call_isx (by rfl) T.isn PyProof.Rows.boot_isinstance (pa_cons (pv 0) (pa_cons (pe_glob (v := .ref (T.c 6)) (by rfl) (T.mgc 6 (by decide)) rfl) pa_nil))) (pa_cons (pe_callB call_isx (by rfl) T.isn PyProof.Rows.boot_isinstance (pa_cons (pv 0) (pa_cons (pe_glob (v := .ref (T.c 7)) (by rfl) (T.mgc 7 (by decide)) rfl) pa_nil))) (pa_cons (pe_callB call_isx (by rfl) T.isn PyProof.Rows.boot_isinstance (pa_cons (pv 0) (pa_cons (pe_glob (v := .ref (T.c 8)) (by rfl) (T.mgc 8 (by decide)) rfl) pa_nil))) pa_nil))))))
      (pss_cons (ps_set (i := 1) S.nd rfl (.inl rfl) (pe_op op_cat (pv 1) (pe_lst (pa_cons (pe_callB call_isx (by rfl) T.isn PyProof.Rows.boot_isinstance (pa_cons (pv 0) (pa_cons (pe_glob (v := .ref (T.c 9)) (by rfl) (T.mgc 9 (by decide)) rfl) pa_nil))) (pa_cons (pe_callB call_isx (by rfl) T.isn PyProof.Rows.boot_isinstance (pa_cons (pv 0) (pa_cons (pe_glob (v := .ref (T.c 10)) (by rfl) (T.mgc 10 (by decide)) rfl) pa_nil))) (pa_cons (pe_callB call_isx (by rfl) T.isn PyProof.Rows.boot_isinstance (pa_cons (pv 0) (pa_cons (pe_glob (v := .ref (T.c 11)) (by rfl) (T.mgc 11 (by decide)) rfl) pa_nil))) pa_nil))))))
      (pss_cons (ps_set (i := 1) S.nd rfl (.inl rfl) (pe_op op_cat (pv 1) (pe_lst (pa_cons (pe_callB call_isx (by rfl) T.isn PyProof.Rows.boot_isinstance (pa_cons (pv 0) (pa_cons (pe_glob (v := .ref (T.c 12)) (by rfl) (T.mgc 12 (by decide)) rfl) pa_nil))) (pa_cons (pe_callB call_isx (by rfl) T.isn PyProof.Rows.boot_isinstance (pa_cons (pv 0) (pa_cons (pe_glob (v := .ref (T.c 13)) (by rfl) (T.mgc 13 (by decide)) rfl) pa_nil))) (pa_cons (pe_callB call_isx (by rfl) T.isn PyProof.Rows.boot_isinstance (pa_cons (pv 0) (pa_cons (pe_glob (v := .ref (T.c 14)) (by rfl) (T.mgc 14 (by decide)) rfl) pa_nil))) pa_nil))))))
      (pss_cons (ps_set (i := 1) S.nd rfl (.inl rfl) (pe_op op_cat (pv 1) (pe_lst (pa_cons (pe_callB call_isx (by rfl) T.isn PyProof.Rows.boot_isinstance (pa_cons (pv 0) (pa_cons (pe_glob (v := .ref (T.c 15)) (by rfl) (T.mgc 15 (by decide)) rfl) pa_nil))) (pa_cons (pe_callB call_isx (by rfl) T.isn PyProof.Rows.boot_isinstance (pa_cons (pv 0) (pa_cons (pe_glob (v := .ref (T.c 16)) (by rfl) (T.mgc 16 (by decide)) rfl) pa_nil))) (pa_cons (pe_callB call_isx (by rfl) T.isn PyProof.Rows.boot_isinstance (pa_cons (pv 0) (pa_cons (pe_glob (v := .ref (T.c 17)) (by rfl) (T.mgc 17 (by decide)) rfl) pa_nil))) pa_nil))))))
      (pss_cons (ps_set (i := 1) S.nd rfl (.inl rfl) (pe_op op_cat (pv 1) (pe_lst (pa_cons (pe_callB call_isx (by rfl) T.isn PyProof.Rows.boot_isinstance (pa_cons (pv 0) (pa_cons (pe_glob (v := .ref (T.c 18)) (by rfl) (T.mgc 18 (by decide)) rfl) pa_nil))) (pa_cons (pe_callB call_isx (by rfl) T.isn PyProof.Rows.boot_isinstance (pa_cons (pv 0) (pa_cons (pe_glob (v := .ref (T.c 19)) (by rfl) (T.mgc 19 (by decide)) rfl) pa_nil))) (pa_cons (pe_callB call_isx (by rfl) T.isn PyProof.Rows.boot_isinstance (pa_cons (pv 0) (pa_cons (pe_glob (v := .ref (T.c 20)) (by rfl) (T.mgc 20 (by decide)) rfl) pa_nil))) pa_nil))))))
      (pss_cons (ps_set (i := 1) S.nd rfl (.inl rfl) (pe_op op_cat (pv 1) (pe_lst (pa_cons (pe_callB call_isx (by rfl) T.isn PyProof.Rows.boot_isinstance (pa_cons (pv 0) (pa_cons (pe_glob (v := .ref (T.c 21)) (by rfl) (T.mgc 21 (by decide)) rfl) pa_nil))) (pa_cons (pe_callB call_isx (by rfl) T.isn PyProof.Rows.boot_isinstance (pa_cons (pv 0) (pa_cons (pe_glob (v := .ref (T.c 22)) (by rfl) (T.mgc 22 (by decide)) rfl) pa_nil))) (pa_cons (pe_callB call_isx (by rfl) T.isn PyProof.Rows.boot_isinstance (pa_cons (pv 0) (pa_cons (pe_glob (v := .ref (T.c 23)) (by rfl) (T.mgc 23 (by decide)) rfl) pa_nil))) pa_nil))))))
      (pss_cons (ps_set (i := 1) S.nd rfl (.inl rfl) (pe_op op_cat (pv 1) (pe_lst (pa_cons (pe_callB call_isx (by rfl) T.isn PyProof.Rows.boot_isinstance (pa_cons (pv 0) (pa_cons (pe_glob (v := .ref (T.c 24)) (by rfl) (T.mgc 24 (by decide)) rfl) pa_nil))) (pa_cons (pe_callB call_isx (by rfl) T.isn PyProof.Rows.boot_isinstance (pa_cons (pv 0) (pa_cons (pe_glob (v := .ref (T.c 25)) (by rfl) (T.mgc 25 (by decide)) rfl) pa_nil))) (pa_cons (pe_callB call_isx (by rfl) T.isn PyProof.Rows.boot_isinstance (pa_cons (pv 0) (pa_cons (pe_glob (v := .ref (T.c 26)) (by rfl) (T.mgc 26 (by decide)) rfl) pa_nil))) pa_nil))))))
      (pss_cons (ps_set (i := 1) S.nd rfl (.inl rfl) (pe_op op_cat (pv 1) (pe_lst (pa_cons (pe_callB call_isx (by rfl) T.isn PyProof.Rows.boot_isinstance (pa_cons (pv 0) (pa_cons (pe_glob (v := .ref (T.c 27)) (by rfl) (T.mgc 27 (by decide)) rfl) pa_nil))) (pa_cons (pe_callB call_isx (by rfl) T.isn PyProof.Rows.boot_isinstance (pa_cons (pv 0) (pa_cons (pe_glob (v := .ref (T.c 28)) (by rfl) (T.mgc 28 (by decide)) rfl) pa_nil))) (pa_cons (pe_callB call_isx (by rfl) T.isn PyProof.Rows.boot_isinstance (pa_cons (pv 0) (pa_cons (pe_glob (v := .ref (T.c 29)) (by rfl) (T.mgc 29 (by decide)) rfl) pa_nil))) pa_nil))))))
      (pss_one (ps_ret (pv 1))))))))))))), ?_⟩
    refine ⟨Nat.zero_le _, fun l0 n0 => ?_⟩
    have s0 : Same H (upd H l0 (.lst [])) := same_new n0
    have e0 : (upd H l0 (.lst [])) l0 = some (.lst []) := upd_same
    generalize upd H l0 (.lst []) = H0 at s0 e0 ⊢
    refine three (K := K) (hx.same s0) hI (kb 0 (by decide)) (kb 1 (by decide)) (kb 2 (by decide)) e0 (by simp) (fun l1 H1 z1 _ e1 => ?_)
    have s1 := s0.trans z1
    refine three (K := K) (hx.same s1) hI (kb 3 (by decide)) (kb 4 (by decide)) (kb 5 (by decide)) e1 (by simp) (fun l2 H2 z2 _ e2 => ?_)
    have s2 := s1.trans z2
    refine three (K := K) (hx.same s2) hI (kb 6 (by decide)) (kb 7 (by decide)) (kb 8 (by decide)) e2 (by simp) (fun l3 H3 z3 _ e3 => ?_)
    have s3 := s2.trans z3
    refine three (K := K) (hx.same s3) hI (kb 9 (by decide)) (kb 10 (by decide)) (kb 11 (by decide)) e3 (by simp) (fun l4 H4 z4 _ e4 => ?_)
    have s4 := s3.trans z4
    refine three (K := K) (hx.same s4) hI (kb 12 (by decide)) (kb 13 (by decide)) (kb 14 (by decide)) e4 (by simp) (fun l5 H5 z5 _ e5 => ?_)
    have s5 := s4.trans z5
    refine three (K := K) (hx.same s5) hI (kb 15 (by decide)) (kb 16 (by decide)) (kb 17 (by decide)) e5 (by simp) (fun l6 H6 z6 _ e6 => ?_)
    have s6 := s5.trans z6
    refine three (K := K) (hx.same s6) hI (kb 18 (by decide)) (kb 19 (by decide)) (kb 20 (by decide)) e6 (by simp) (fun l7 H7 z7 _ e7 => ?_)
    have s7 := s6.trans z7
    refine three (K := K) (hx.same s7) hI (kb 21 (by decide)) (kb 22 (by decide)) (kb 23 (by decide)) e7 (by simp) (fun l8 H8 z8 _ e8 => ?_)
    have s8 := s7.trans z8
    refine three (K := K) (hx.same s8) hI (kb 24 (by decide)) (kb 25 (by decide)) (kb 26 (by decide)) e8 (by simp) (fun l9 H9 z9 _ e9 => ?_)
    have s9 := s8.trans z9
    refine three (K := K) (hx.same s9) hI (kb 27 (by decide)) (kb 28 (by decide)) (kb 29 (by decide)) e9 (by simp) (fun l10 H10 z10 y10 e10 => ?_)
    have s10 := s9.trans z10
    exact ⟨_, rfl, q l10 H10 s10 (s9.free y10) e10⟩
theorem ok_latter {f : Addr} {fd : FuncData} (F : Fun K "_law_latter" "_law_latter" sLatter f fd) (T : Top P K mg) : FnOk P w K mg base CX0 1 f fd ["_law_error"] (spIs T.c K 30) := by
  have S := scL
  refine F.ok S (fun vs H Q E h => ?_) (fun cdv A outer s H vs Q E hr h => ?_)
  · obtain ⟨a, D, b, rfl, _⟩ := h
    rfl
  · obtain ⟨a, D, b, rfl, hx, hI, kb, q⟩ := h
    refine ⟨_, pss_cons (ps_set (i := 1) S.nd rfl (.inl rfl) (pe_lst pa_nil))
      (pss_cons (ps_set (i := 1) S.nd rfl (.inl rfl) (pe_op op_cat (pv 1) (pe_lst (pa_cons (pe_callB call_isx (by rfl) T.isn PyProof.Rows.boot_isinstance (pa_cons (pv 0) (pa_cons (pe_glob (v := .ref (T.c 30)) (by rfl) (T.mgc 30 (by decide)) rfl) pa_nil))) (pa_cons (pe_callB call_isx (by rfl) T.isn PyProof.Rows.boot_isinstance (pa_cons (pv 0) (pa_cons (pe_glob (v := .ref (T.c 31)) (by rfl) (T.mgc 31 (by decide)) rfl) pa_nil))) (pa_cons (pe_callB call_isx (by rfl) T.isn PyProof.Rows.boot_isinstance (pa_cons (pv 0) (pa_cons (pe_glob (v := .ref (T.c 32)) (by rfl) (T.mgc 32 (by decide)) rfl) pa_nil))) pa_nil))))))
      (pss_cons (ps_set (i := 1) S.nd rfl (.inl rfl) (pe_op op_cat (pv 1) (pe_lst (pa_cons (pe_callB call_isx (by rfl) T.isn PyProof.Rows.boot_isinstance (pa_cons (pv 0) (pa_cons (pe_glob (v := .ref (T.c 33)) (by rfl) (T.mgc 33 (by decide)) rfl) pa_nil))) (pa_cons (pe_callB call_isx (by rfl) T.isn PyProof.Rows.boot_isinstance (pa_cons (pv 0) (pa_cons (pe_glob (v := .ref (T.c 34)) (by rfl) (T.mgc 34 (by decide)) rfl) pa_nil))) (pa_cons (pe_callB call_isx (by rfl) T.isn PyProof.Rows.boot_isinstance (pa_cons (pv 0) (pa_cons (pe_glob (v := .ref (T.c 35)) (by rfl) (T.mgc 35 (by decide)) rfl) pa_nil))) pa_nil))))))
      (pss_cons (ps_set (i := 1) S.nd rfl (.inl rfl) (pe_op op_cat (pv 1) (pe_lst (pa_cons (pe_callB call_isx (by rfl) T.isn PyProof.Rows.boot_isinstance (pa_cons (pv 0) (pa_cons (pe_glob (v := .ref (T.c 36)) (by rfl) (T.mgc 36 (by decide)) rfl) pa_nil))) (pa_cons (pe_callB call_isx (by rfl) T.isn PyProof.Rows.boot_isinstance (pa_cons (pv 0) (pa_cons (pe_glob (v := .ref (T.c 37)) (by rfl) (T.mgc 37 (by decide)) rfl) pa_nil))) (pa_cons (pe_callB call_isx (by rfl) T.isn PyProof.Rows.boot_isinstance (pa_cons (pv 0) (pa_cons (pe_glob (v := .ref (T.c 38)) (by rfl) (T.mgc 38 (by decide)) rfl) pa_nil))) pa_nil))))))
      (pss_cons (ps_set (i := 1) S.nd rfl (.inl rfl) (pe_op op_cat (pv 1) (pe_lst (pa_cons (pe_callB call_isx (by rfl) T.isn PyProof.Rows.boot_isinstance (pa_cons (pv 0) (pa_cons (pe_glob (v := .ref (T.c 39)) (by rfl) (T.mgc 39 (by decide)) rfl) pa_nil))) (pa_cons (pe_callB call_isx (by rfl) T.isn PyProof.Rows.boot_isinstance (pa_cons (pv 0) (pa_cons (pe_glob (v := .ref (T.c 40)) (by rfl) (T.mgc 40 (by decide)) rfl) pa_nil))) (pa_cons (pe_callB call_isx (by rfl) T.isn PyProof.Rows.boot_isinstance (pa_cons (pv 0) (pa_cons (pe_glob (v := .ref (T.c 41)) (by rfl) (T.mgc 41 (by decide)) rfl) pa_nil))) pa_nil))))))
      (pss_cons (ps_set (i := 1) S.nd rfl (.inl rfl) (pe_op op_cat (pv 1) (pe_lst (pa_cons (pe_callB call_isx (by rfl) T.isn PyProof.Rows.boot_isinstance (pa_cons (pv 0) (pa_cons (pe_glob (v := .ref (T.c 42)) (by rfl) (T.mgc 42 (by decide)) rfl) pa_nil))) (pa_cons (pe_callB call_isx (by rfl) T.isn PyProof.Rows.boot_isinstance (pa_cons (pv 0) (pa_cons (pe_glob (v := .ref (T.c 43)) (by rfl) (T.mgc 43 (by decide)) rfl) pa_nil))) (pa_cons (pe_callB call_isx (by rfl) T.isn PyProof.Rows.boot_isinstance (pa_cons (pv 0) (pa_cons (pe_glob (v := .ref (T.c 44)) (by rfl) (T.mgc 44 (by decide)) rfl) pa_nil))) pa_nil))))))
      (pss_cons (ps_set (i := 1) S.nd rfl (.inl rfl) (pe_op op_cat (pv 1) (pe_lst (pa_cons (pe_callB call_isx (by rfl) T.isn PyProof.Rows.boot_isinstance (pa_cons (pv 0) (pa_cons (pe_glob (v := .ref (T.c 45)) (by rfl) (T.mgc 45 (by decide)) rfl) pa_nil))) (pa_cons (pe_callB call_isx (by rfl) T.isn PyProof.Rows.boot_isinstance (pa_cons (pv 0) (pa_cons (pe_glob (v := .ref (T.c 46)) (by rfl) (T.mgc 46 (by decide)) rfl) pa_nil))) (pa_cons (pe_callB call_isx (by rfl) T.isn PyProof.Rows.boot_isinstance (pa_cons (pv 0) (pa_cons (pe_glob (v := .ref (T.c 47)) (by rfl) (T.mgc 47 (by decide)) rfl) pa_nil))) pa_nil))))))
      (pss_cons (ps_set (i := 1) S.nd rfl (.inl rfl) (pe_op op_cat (pv 1) (pe_lst (pa_cons (pe_callB call_isx (by rfl) T.isn PyProof.Rows.boot_isinstance (pa_cons (pv 0) (pa_cons (pe_glob (v := .ref (T.c 48)) (by rfl) (T.mgc 48 (by decide)) rfl) pa_nil))) (pa_cons (pe_callB call_isx (by rfl) T.isn PyProof.Rows.boot_isinstance (pa_cons (pv 0) (pa_cons (pe_glob (v := .ref (T.c 49)) (by rfl) (T.mgc 49 (by decide)) rfl) pa_nil))) (pa_cons (pe_callB call_isx (by rfl) T.isn PyProof.Rows.boot_isinstance (pa_cons (pv 0) (pa_cons (pe_glob (v := .ref (T.c 50)) (by rfl) (T.mgc 50 (by decide)) rfl) pa_nil))) pa_nil))))))
      (pss_cons (ps_set (i := 1) S.nd rfl (.inl rfl) (pe_op op_cat (pv 1) (pe_lst (pa_cons (pe_callB call_isx (by rfl) T.isn PyProof.Rows.boot_isinstance (pa_cons (pv 0) (pa_cons (pe_glob (v := .ref (T.c 51)) (by rfl) (T.mgc 51 (by decide)) rfl) pa_nil))) (pa_cons (pe_callB call_isx (by rfl) T.isn PyProof.Rows.boot_isinstance (pa_cons (pv 0) (pa_cons (pe_glob (v := .ref (T.c 52)) (by rfl) (T.mgc 52 (by decide)) rfl) pa_nil))) (pa_cons (pe_callB call_isx (by rfl) T.isn PyProof.Rows.boot_isinstance (pa_cons (pv 0) (pa_cons (pe_glob (v := .ref (T.c 53)) (by rfl) (T.mgc 53 (by decide)) rfl) pa_nil))) pa_nil))))))
      (pss_cons (ps_set (i := 1) S.nd rfl (.inl rfl) (pe_op op_cat (pv 1) (pe_lst (pa_cons (pe_callB call_isx (by rfl) T.isn PyProof.Rows.boot_isinstance (pa_cons (pv 0) (pa_cons (pe_glob (v := .ref (T.c 54)) (by rfl) (T.mgc 54 (by decide)) rfl) pa_nil))) (pa_cons (pe_callB call_isx (by rfl) T.isn PyProof.Rows.boot_isinstance (pa_cons (pv 0) (pa_cons (pe_glob (v := .ref (T.c 55)) (by rfl) (T.mgc 55 (by decide)) rfl) pa_nil))) (pa_cons (pe_callB call_isx (by rfl) T.isn PyProof.Rows.boot_isinstance (pa_cons (pv 0) (pa_cons (pe_glob (v := .ref (T.c 56)) (by rfl) (T.mgc 56 (by decide)) rfl) pa_nil))) pa_nil))))))
      (pss_cons (ps_set (i := 1) S.nd rfl (.inl rfl) (pe_op op_cat (pv 1) (pe_lst (pa_cons (pe_callB call_isx (by rfl) T.isn PyProof.Rows.boot_isinstance (pa_cons (pv 0) (pa_cons (pe_glob (v := .ref (T.c 57)) (by rfl) (T.mgc 57 (by decide)) rfl) pa_nil))) (pa_cons (pe_callB call_isx (by rfl) T.isn PyProof.Rows.boot_isinstance (pa_cons (pv 0) (pa_cons (pe_glob (v := .ref (T.c 58)) (by rfl) (T.mgc 58 (by decide)) rfl) pa_nil))) (pa_cons (pe_callB call_isx (by rfl) T.isn PyProof.Rows.boot_isinstance (pa_cons (pv 0) (pa_cons (pe_glob (v := .ref (T.c 59)) (by rfl) (T.mgc 59 (by decide)) rfl) pa_nil))) pa_nil))))))
      (pss_one (ps_ret (pv 1))))))))))))), ?_⟩
    refine ⟨Nat.zero_le _, fun l0 n0 => ?_⟩
    have s0 : Same H (upd H l0 (.lst [])) := same_new n0
    have e0 : (upd H l0 (.lst [])) l0 = some (.lst []) := upd_same
    generalize upd H l0 (.lst []) = H0 at s0 e0 ⊢
    refine three (K := K) (hx.same s0) hI (kb 30 (by decide)) (kb 31 (by decide)) (kb 32 (by decide)) e0 (by simp) (fun l1 H1 z1 _ e1 => ?_)
    have s1 := s0.trans z1
    refine three (K := K) (hx.same s1) hI (kb 33 (by decide)) (kb 34 (by decide)) (kb 35 (by decide)) e1 (by simp) (fun l2 H2 z2 _ e2 => ?_)
    have s2 := s1.trans z2
    refine three (K := K) (hx.same s2) hI (kb 36 (by decide)) (kb 37 (by decide)) (kb 38 (by decide)) e2 (by simp) (fun l3 H3 z3 _ e3 => ?_)
    have s3 := s2.trans z3
    refine three (K := K) (hx.same s3) hI (kb 39 (by decide)) (kb 40 (by decide)) (kb 41 (by decide)) e3 (by simp) (fun l4 H4 z4 _ e4 => ?_)
    have s4 := s3.trans z4
    refine three (K := K) (hx.same s4) hI (kb 42 (by decide)) (kb 43 (by decide)) (kb 44 (by decide)) e4 (by simp) (fun l5 H5 z5 _ e5 => ?_)
    have s5 := s4.trans z5
    refine three (K := K) (hx.same s5) hI (kb 45 (by decide)) (kb 46 (by decide)) (kb 47 (by decide)) e5 (by simp) (fun l6 H6 z6 _ e6 => ?_)
    have s6 := s5.trans z6
    refine three (K := K) (hx.same s6) hI (kb 48 (by decide)) (kb 49 (by decide)) (kb 50 (by decide)) e6 (by simp) (fun l7 H7 z7 _ e7 => ?_)
    have s7 := s6.trans z7
    refine three (K := K) (hx.same s7) hI (kb 51 (by decide)) (kb 52 (by decide)) (kb 53 (by decide)) e7 (by simp) (fun l8 H8 z8 _ e8 => ?_)
    have s8 := s7.trans z8
    refine three (K := K) (hx.same s8) hI (kb 54 (by decide)) (kb 55 (by decide)) (kb 56 (by decide)) e8 (by simp) (fun l9 H9 z9 _ e9 => ?_)
    have s9 := s8.trans z9
    refine three (K := K) (hx.same s9) hI (kb 57 (by decide)) (kb 58 (by decide)) (kb 59 (by decide)) e9 (by simp) (fun l10 H10 z10 y10 e10 => ?_)
    have s10 := s9.trans z10
    exact ⟨_, rfl, q l10 H10 s10 (s9.free y10) e10⟩
end
end Kn
set_option maxHeartbeats 8000000
namespace Kn
open PySem PySem.Spec PyProof.Rows L2 Err
/-- an error of the class C without a dict -/
def Er (H : Hp) (v : V) (C : Addr) : Prop := ∃ a, v = .ref a ∧ H a = some (ExO (.ref C) a)
theorem Er.same {H H' : Hp} (s : Same H H') (v : V) (C : Addr) (h : Er H v C) : Er H' v C := by
  obtain ⟨a, e, h⟩ := h
  exact ⟨a, e, s _ _ h⟩
theorem paired_app {α β : Type} {R : α → β → Prop} {xs ys : List α} {us ws : List β} (h : Paired R xs us) (k : Paired R ys ws) : Paired R (xs ++ ys) (us ++ ws) := by
  induction h with
  | nil => exact k
  | cons r _ ih => exact .cons r ih
abbrev tEx (c : Addr) : TE := fun σ H Q => tVar 0 σ H fun _ H1 => ∀ a, H1 a = none → Q (.ref a) (upd H1 a (ExO (.ref c) a))
theorem five {v : V} {l c0 c1 c2 c3 c4 : Addr} {xs : List V} {cs : List Addr} {H : Hp} {Dn : Ends} (hl : H l = some (.lst xs)) (hz : xs.length ≤ 900) (hp : Paired (Er H) xs cs)
    (q : ∀ l' H' xs', Same H H' → H l' = none → H' l' = some (.lst xs') → Paired (Er H') xs' (cs ++ [c0, c1, c2, c3, c4]) → Dn.nx [some v, some (.ref l')] H') :
    (tAsg (tOp rCat (tVar 1) (tLst (tCons (tEx c0) (tCons (tEx c1) (tCons (tEx c2) (tCons (tEx c3) (tCons (tEx c4) tNil))))))) (gName 1)) Dn [some v, some (.ref l)] H := by
  refine ⟨_, rfl, v, rfl, fun a0 n0 => ⟨v, rfl, fun a1 n1 => ⟨v, rfl, fun a2 n2 => ⟨v, rfl, fun a3 n3 => ⟨v, rfl, fun a4 n4 => ⟨by show 5 ≤ sizeLine; decide, fun p np => ?_⟩⟩⟩⟩⟩⟩
  have s0 := same_new (o := ExO (.ref c0) a0) n0
  have s1 := same_new (o := ExO (.ref c1) a1) n1
  have s2 := same_new (o := ExO (.ref c2) a2) n2
  have s3 := same_new (o := ExO (.ref c3) a3) n3
  have s4 := same_new (o := ExO (.ref c4) a4) n4
  have s5 := same_new (o := .lst [.ref a0, .ref a1, .ref a2, .ref a3, .ref a4]) np
  have t0 := s0.trans (s1.trans (s2.trans (s3.trans (s4.trans s5))))
  refine ⟨l, p, xs, _, rfl, rfl, t0 _ _ hl, upd_same, ?_, fun r nr => ?_⟩
  · have z : (900 : Nat) + 5 < sizeLine := by decide
    show xs.length + 5 ≤ sizeLine
    omega
  · have s6 := same_new (o := .lst (xs ++ [.ref a0, .ref a1, .ref a2, .ref a3, .ref a4])) nr
    have t1 := t0.trans s6
    refine q r _ _ t1 (t0.free nr) upd_same (paired_app (L2.Paired.mapP hp (Er.same t1)) ?_)
    exact .cons ⟨a0, rfl, (s1.trans (s2.trans (s3.trans (s4.trans (s5.trans s6))))) _ _ upd_same⟩ (.cons ⟨a1, rfl, (s2.trans (s3.trans (s4.trans (s5.trans s6)))) _ _ upd_same⟩
      (.cons ⟨a2, rfl, (s3.trans (s4.trans (s5.trans s6))) _ _ upd_same⟩ (.cons ⟨a3, rfl, (s4.trans (s5.trans s6)) _ _ upd_same⟩ (.cons ⟨a4, rfl, (s5.trans s6) _ _ upd_same⟩ .nil))))
/-- all but l stands as it stood -/
def Save (l : Addr) (H H' : Hp) : Prop := ∀ b o, H b = some o → b ≠ l → H' b = some o
theorem Save.new {l : Addr} {H : Hp} {o : HO} (n : H l = none) : Save l H (upd H l o) := fun b u e h => by
  rw [upd_ne h]
  exact e
theorem Save.trans {l : Addr} {H H1 H2 : Hp} (a : Save l H H1) (b : Save l H1 H2) : Save l H H2 := fun c o e h => b c o (a c o e h) h
theorem Save.of {l : Addr} {H H1 : Hp} (a : Same H H1) : Save l H H1 := fun c o e _ => a c o e
/-- a pair of an error, with what it keeps, and the value -/
def Pr (H : Hp) (v : V) (x : V) (cp : Addr × Str) : Prop := ∃ t e d, x = .ref t ∧ H t = some (.tup [.ref e, v]) ∧ H e = some (exo e cp.1 (some d)) ∧ H d = some (exd d [(cp.2, v)])
theorem Pr.save {l : Addr} {H H' : Hp} {v : V} {xs : List V} (hl : H l = some (.lst xs)) (s : Save l H H') (x : V) (cp : Addr × Str) (h : Pr H v x cp) : Pr H' v x cp := by
  obtain ⟨t, e, d, r, h1, h2, h3⟩ := h
  exact ⟨t, e, d, r, s _ _ h1 (ne_of h1 hl (by intro z; cases z)), s _ _ h2 (ne_of h2 hl (by intro z; cases z)), s _ _ h3 (ne_of h3 hl (by intro z; cases z))⟩
abbrev tErr0 (c : Addr) (p : Str) : TE := tErr c p (tVar 0)
theorem pair {K : PySem.W.Frag} {v : V} {l c : Addr} {p : Str} {xs : List V} {cs : List (Addr × Str)} {H : Hp} {Dn : Ends} {G : Hp} (hI : Isi K c) (hno : PySem.W.findIn K (.ref c) p = some none)
    (hl : H l = some (.lst xs)) (hz : xs.length ≤ 900) (hp : Paired (Pr H v) xs cs) (nl : G l = none) (sv : Save l G H)
    (q : ∀ H' (t : Addr), Save l H H' → H' l = some (.lst (xs ++ [.ref t])) → Paired (Pr H' v) (xs ++ [.ref t]) (cs ++ [(c, p)]) → Dn.nx [some v, some (.ref l)] H') :
    (tDrop (tBM K "list" rAppend (tVar 1) (tCons (tTup (tCons (tErr0 c p) (tCons (tAtt K p (tErr0 c p)) tNil))) tNil))) Dn [some v, some (.ref l)] H := by
  refine ⟨_, rfl, .inl ⟨rfl, _, SqL.of hl⟩, v, rfl, fun e d ne nd de => ⟨v, rfl, fun e2 d2 ne2 nd2 de2 => ?_⟩⟩
  have s1 : Same H (upd (upd H d (exd d [(p, v)])) e (exo e c (some d))) := fun b o z => by
    rw [upd_ne (ne_of_none z ne), upd_ne (ne_of_none z nd)]
    exact z
  have ee : (upd (upd H d (exd d [(p, v)])) e (exo e c (some d))) e = some (exo e c (some d)) := upd_same
  have ed : (upd (upd H d (exd d [(p, v)])) e (exo e c (some d))) d = some (exd d [(p, v)]) := by
    rw [upd_ne de]
    exact upd_same
  generalize upd (upd H d (exd d [(p, v)])) e (exo e c (some d)) = H1 at s1 ee ed ne2 nd2 ⊢
  have s2 : Same H1 (upd (upd H1 d2 (exd d2 [(p, v)])) e2 (exo e2 c (some d2))) := fun b o z => by
    rw [upd_ne (ne_of_none z ne2), upd_ne (ne_of_none z nd2)]
    exact z
  have ee2 : (upd (upd H1 d2 (exd d2 [(p, v)])) e2 (exo e2 c (some d2))) e2 = some (exo e2 c (some d2)) := upd_same
  have ed2 : (upd (upd H1 d2 (exd d2 [(p, v)])) e2 (exo e2 c (some d2))) d2 = some (exd d2 [(p, v)]) := by
    rw [upd_ne de2]
    exact upd_same
  generalize upd (upd H1 d2 (exd d2 [(p, v)])) e2 (exo e2 c (some d2)) = H2 at s2 ee2 ed2 ⊢
  refine ⟨e2, c, d2, _, v, rfl, ee2, ed2, hI, hno, by rw [lookup_put, if_pos rfl], by show 2 ≤ sizeLine; decide, fun t nt => ?_⟩
  have s3 := same_new (o := .tup [.ref e, v]) nt
  have t3 := s1.trans (s2.trans s3)
  have hl3 := t3 _ _ hl
  refine ⟨l, xs, .ref t, rfl, rfl, hl3, ?_, ?_⟩
  · have z : (900 : Nat) < sizeLine := by decide
    omega
  · have s4 : Save l (upd H2 t (.tup [.ref e, v])) (upd (upd H2 t (.tup [.ref e, v])) l (.lst (xs ++ [.ref t]))) := fun b o z h => by
      rw [upd_ne h]
      exact z
    have t4 := (Save.of (l := l) t3).trans s4
    refine q _ t t4 upd_same (paired_app (L2.Paired.mapP hp (Pr.save hl t4)) (.cons ⟨t, e, d, rfl, ?_, ?_, ?_⟩ .nil))
    · have h := upd_same (H := H2) (a := t) (o := .tup [.ref e, v])
      exact s4 _ _ h (ne_of h hl3 (by intro z; cases z))
    · have h := (s2.trans s3) _ _ ee
      exact s4 _ _ h (ne_of h hl3 (by intro z; cases z))
    · have h := (s2.trans s3) _ _ ed
      exact s4 _ _ h (ne_of h hl3 (by intro z; cases z))
/-- what the i-th of some errors keeps -/
abbrev tIt (K : PySem.W.Frag) (n : Str) (i : Int) : TE := tAtt K n (tOp (rIxL K) (tVar 0) (tC (.int i)))
abbrev sBare : Stmt := topS 70
abbrev sFilled : Stmt := topS 71
abbrev sKept : Stmt := topS 72
theorem scBa : FnScope ["_law_words", "_law_found"] ["_law_words"] (defScope sBare) := ⟨rfl, rfl, rfl, by decide +kernel, rfl, by decide +kernel, by decide +kernel⟩
theorem scFi : FnScope ["_law_each", "_law_found"] ["_law_each"] (defScope sFilled) := ⟨rfl, rfl, rfl, by decide +kernel, rfl, by decide +kernel, by decide +kernel⟩
theorem scKe : FnScope ["_law_some", "_law_found"] ["_law_some"] (defScope sKept) := ⟨rfl, rfl, rfl, by decide +kernel, rfl, by decide +kernel, by decide +kernel⟩
def spBare (c : Nat → Addr) : Sp := fun vs H Q _ => ∃ v, vs = [v] ∧ ∀ l H' es, Same H H' → H l = none → H' l = some (.lst es) → Paired (Er H') es ((List.range 40).map c) → Q (.ref l) H'
def spFilled (c : Nat → Addr) : Sp := fun vs H Q _ => ∃ v, vs = [v] ∧ ∀ l H' ts, Same H H' → H l = none → H' l = some (.lst ts) → Paired (Pr H' v) ts ((List.range 20).map fun i => (c (40 + i), AT.getD i "")) → Q (.ref l) H'
section
variable {P : Program} {w : World} {K : PySem.W.Frag} {mg : Str → Option Value} {base : Heap}
theorem ok_bare {f : Addr} {fd : FuncData} (F : Fun K "_law_bare" "_law_bare" sBare f fd) (T : Top P K mg) : FnOk P w K mg base CX0 1 f fd ["_law_words"] (spBare T.c) := by
  have S := scBa
  refine F.ok S (fun vs H Q E h => ?_) (fun cdv A outer s H vs Q E hr h => ?_)
  · obtain ⟨v, rfl, _⟩ := h
    rfl
  · obtain ⟨v, rfl, q⟩ := h
    refine ⟨_, pss_cons (ps_set (i := 1) S.nd rfl (.inl rfl) (pe_lst pa_nil))
      (pss_cons (ps_set (i := 1) S.nd rfl (.inl rfl) (pe_op op_cat (pv 1) (pe_lst (pa_cons (pe_exc1 PySem.F.excBase_ValueError (T.ex 0 (by decide)) (T.mgc 0 (by decide)) (T.kp 0 (by decide)) (by rfl) (pv 0)) (pa_cons (pe_exc1 PySem.F.excBase_ValueError (T.ex 1 (by decide)) (T.mgc 1 (by decide)) (T.kp 1 (by decide)) (by rfl) (pv 0)) (pa_cons (pe_exc1 PySem.F.excBase_ValueError (T.ex 2 (by decide)) (T.mgc 2 (by decide)) (T.kp 2 (by decide)) (by rfl) (pv 0)) (pa_cons (pe_exc1 PySem.F.excBase_ValueError (T.ex 3 (by decide)) (T.mgc 3 (by decide)) (T.kp 3 (by decide)) (by rfl) (pv 0)) (pa_cons (pe_exc1 PySem.F.excBase_ValueError (T.ex 4 (by decide)) (T.mgc 4 (by decide)) (T.kp 4 (by decide)) (by rfl) (pv 0)) pa_nil))))))))
      (pss_cons (ps_set (i := 1) S.nd rfl (.inl rfl) (pe_op op_cat (pv 1) (pe_lst (pa_cons (pe_exc1 PySem.F.excBase_ValueError (T.ex 5 (by decide)) (T.mgc 5 (by decide)) (T.kp 5 (by decide)) (by rfl) (pv 0)) (pa_cons (pe_exc1 PySem.F.excBase_ValueError (T.ex 6 (by decide)) (T.mgc 6 (by decide)) (T.kp 6 (by decide)) (by rfl) (pv 0)) (pa_cons (pe_exc1 PySem.F.excBase_ValueError (T.ex 7 (by decide)) (T.mgc 7 (by decide)) (T.kp 7 (by decide)) (by rfl) (pv 0)) (pa_cons (pe_exc1 PySem.F.excBase_ValueError (T.ex 8 (by decide)) (T.mgc 8 (by decide)) (T.kp 8 (by decide)) (by rfl) (pv 0)) (pa_cons (pe_exc1 PySem.F.excBase_ValueError (T.ex 9 (by decide)) (T.mgc 9 (by decide)) (T.kp 9 (by decide)) (by rfl) (pv 0)) pa_nil))))))))
      (pss_cons (ps_set (i := 1) S.nd rfl (.inl rfl) (pe_op op_cat (pv 1) (pe_lst (pa_cons (pe_exc1 PySem.F.excBase_ValueError (T.ex 10 (by decide)) (T.mgc 10 (by decide)) (T.kp 10 (by decide)) (by rfl) (pv 0)) (pa_cons (pe_exc1 PySem.F.excBase_ValueError (T.ex 11 (by decide)) (T.mgc 11 (by decide)) (T.kp 11 (by decide)) (by rfl) (pv 0)) (pa_cons (pe_exc1 PySem.F.excBase_ValueError (T.ex 12 (by decide)) (T.mgc 12 (by decide)) (T.kp 12 (by decide)) (by rfl) (pv 0)) (pa_cons (pe_exc1 PySem.F.excBase_ValueError (T.ex 13 (by decide)) (T.mgc 13 (by decide)) (T.kp 13 (by decide)) (by rfl) (pv 0)) (pa_cons (pe_exc1 PySem.F.excBase_ValueError (T.ex 14 (by decide)) (T.mgc 14 (by decide)) (T.kp 14 (by decide)) (by rfl) (pv 0)) pa_nil))))))))
      (pss_cons (ps_set (i := 1) S.nd rfl (.inl rfl) (pe_op op_cat (pv 1) (pe_lst (pa_cons (pe_exc1 PySem.F.excBase_ValueError (T.ex 15 (by decide)) (T.mgc 15 (by decide)) (T.kp 15 (by decide)) (by rfl) (pv 0)) (pa_cons (pe_exc1 PySem.F.excBase_ValueError (T.ex 16 (by decide)) (T.mgc 16 (by decide)) (T.kp 16 (by decide)) (by rfl) (pv 0)) (pa_cons (pe_exc1 PySem.F.excBase_ValueError (T.ex 17 (by decide)) (T.mgc 17 (by decide)) (T.kp 17 (by decide)) (by rfl) (pv 0)) (pa_cons (pe_exc1 PySem.F.excBase_ValueError (T.ex 18 (by decide)) (T.mgc 18 (by decide)) (T.kp 18 (by decide)) (by rfl) (pv 0)) (pa_cons (pe_exc1 PySem.F.excBase_ValueError (T.ex 19 (by decide)) (T.mgc 19 (by decide)) (T.kp 19 (by decide)) (by rfl) (pv 0)) pa_nil))))))))
      (pss_cons (ps_set (i := 1) S.nd rfl (.inl rfl) (pe_op op_cat (pv 1) (pe_lst (pa_cons (pe_exc1 PySem.F.excBase_ValueError (T.ex 20 (by decide)) (T.mgc 20 (by decide)) (T.kp 20 (by decide)) (by rfl) (pv 0)) (pa_cons (pe_exc1 PySem.F.excBase_ValueError (T.ex 21 (by decide)) (T.mgc 21 (by decide)) (T.kp 21 (by decide)) (by rfl) (pv 0)) (pa_cons (pe_exc1 PySem.F.excBase_ValueError (T.ex 22 (by decide)) (T.mgc 22 (by decide)) (T.kp 22 (by decide)) (by rfl) (pv 0)) (pa_cons (pe_exc1 PySem.F.excBase_ValueError (T.ex 23 (by decide)) (T.mgc 23 (by decide)) (T.kp 23 (by decide)) (by rfl) (pv 0)) (pa_cons (pe_exc1 PySem.F.excBase_ValueError (T.ex 24 (by decide)) (T.mgc 24 (by decide)) (T.kp 24 (by decide)) (by rfl) (pv 0)) pa_nil))))))))
      (pss_cons (ps_set (i := 1) S.nd rfl (.inl rfl) (pe_op op_cat (pv 1) (pe_lst (pa_cons (pe_exc1 PySem.F.excBase_ValueError (T.ex 25 (by decide)) (T.mgc 25 (by decide)) (T.kp 25 (by decide)) (by rfl) (pv 0)) (pa_cons (pe_exc1 PySem.F.excBase_ValueError (T.ex 26 (by decide)) (T.mgc 26 (by decide)) (T.kp 26 (by decide)) (by rfl) (pv 0)) (pa_cons (pe_exc1 PySem.F.excBase_ValueError (T.ex 27 (by decide)) (T.mgc 27 (by decide)) (T.kp 27 (by decide)) (by rfl) (pv 0)) (pa_cons (pe_exc1 PySem.F.excBase_ValueError (T.ex 28 (by decide)) (T.mgc 28 (by decide)) (T.kp 28 (by decide)) (by rfl) (pv 0)) (pa_cons (pe_exc1 PySem.F.excBase_ValueError (T.ex 29 (by decide)) (T.mgc 29 (by decide)) (T.kp 29 (by decide)) (by rfl) (pv 0)) pa_nil))))))))
      (pss_cons (ps_set (i := 1) S.nd rfl (.inl rfl) (pe_op op_cat (pv 1) (pe_lst (pa_cons (pe_exc1 PySem.F.excBase_ValueError (T.ex 30 (by decide)) (T.mgc 30 (by decide)) (T.kp 30 (by decide)) (by rfl) (pv 0)) (pa_cons (pe_exc1 PySem.F.excBase_ValueError (T.ex 31 (by decide)) (T.mgc 31 (by decide)) (T.kp 31 (by decide)) (by rfl) (pv 0)) (pa_cons (pe_exc1 PySem.F.excBase_ValueError (T.ex 32 (by decide)) (T.mgc 32 (by decide)) (T.kp 32 (by decide)) (by rfl) (pv 0)) (pa_cons (pe_exc1 PySem.F.excBase_ValueError (T.ex 33 (by decide)) (T.mgc 33 (by decide)) (T.kp 33 (by decide)) (by rfl) (pv 0)) (pa_cons (pe_exc1 PySem.F.excBase_ValueError (T.ex 34 (by decide)) (T.mgc 34 (by decide)) (T.kp 34 (by decide)) (by rfl) (pv 0)) pa_nil))))))))
      (pss_cons (ps_set (i := 1) S.nd rfl (.inl rfl) (pe_op op_cat (pv 1) (pe_lst (pa_cons (pe_exc1 PySem.F.excBase_ValueError (T.ex 35 (by decide)) (T.mgc 35 (by decide)) (T.kp 35 (by decide)) (by rfl) (pv 0)) (pa_cons (pe_exc1 PySem.F.excBase_ValueError (T.ex 36 (by decide)) (T.mgc 36 (by decide)) (T.kp 36 (by decide)) (by rfl) (pv 0)) (pa_cons (pe_exc1 PySem.F.excBase_ValueError (T.ex 37 (by decide)) (T.mgc 37 (by decide)) (T.kp 37 (by decide)) (by rfl) (pv 0)) (pa_cons (pe_exc1 PySem.F.excBase_ValueError (T.ex 38 (by decide)) (T.mgc 38 (by decide)) (T.kp 38 (by decide)) (by rfl) (pv 0)) (pa_cons (pe_exc1 PySem.F.excBase_ValueError (T.ex 39 (by decide)) (T.mgc 39 (by decide)) (T.kp 39 (by decide)) (by rfl) (pv 0)) pa_nil))))))))
      (pss_one (ps_ret (pv 1))))))))))), ?_⟩
    refine ⟨Nat.zero_le _, fun l0 n0 => ?_⟩
    have s0 : Same H (upd H l0 (.lst [])) := same_new n0
    have e0 : (upd H l0 (.lst [])) l0 = some (.lst []) := upd_same
    generalize upd H l0 (.lst []) = H0 at s0 e0 ⊢
    have p0 : Paired (Er H0) [] [] := .nil
    refine five (cs := []) e0 (by rw [p0.length]; simp) p0 (fun l1 H1 xs1 z1 y1 e1 p1 => ?_)
    have s1 := s0.trans z1
    refine five (cs := [T.c 0, T.c 1, T.c 2, T.c 3, T.c 4]) e1 (by rw [p1.length]; simp) p1 (fun l2 H2 xs2 z2 y2 e2 p2 => ?_)
    have s2 := s1.trans z2
    refine five (cs := [T.c 0, T.c 1, T.c 2, T.c 3, T.c 4, T.c 5, T.c 6, T.c 7, T.c 8, T.c 9]) e2 (by rw [p2.length]; simp) p2 (fun l3 H3 xs3 z3 y3 e3 p3 => ?_)
    have s3 := s2.trans z3
    refine five (cs := [T.c 0, T.c 1, T.c 2, T.c 3, T.c 4, T.c 5, T.c 6, T.c 7, T.c 8, T.c 9, T.c 10, T.c 11, T.c 12, T.c 13, T.c 14]) e3 (by rw [p3.length]; simp) p3 (fun l4 H4 xs4 z4 y4 e4 p4 => ?_)
    have s4 := s3.trans z4
    refine five (cs := [T.c 0, T.c 1, T.c 2, T.c 3, T.c 4, T.c 5, T.c 6, T.c 7, T.c 8, T.c 9, T.c 10, T.c 11, T.c 12, T.c 13, T.c 14, T.c 15, T.c 16, T.c 17, T.c 18, T.c 19]) e4 (by rw [p4.length]; simp) p4 (fun l5 H5 xs5 z5 y5 e5 p5 => ?_)
    have s5 := s4.trans z5
    refine five (cs := [T.c 0, T.c 1, T.c 2, T.c 3, T.c 4, T.c 5, T.c 6, T.c 7, T.c 8, T.c 9, T.c 10, T.c 11, T.c 12, T.c 13, T.c 14, T.c 15, T.c 16, T.c 17, T.c 18, T.c 19, T.c 20, T.c 21, T.c 22, T.c 23, T.c 24]) e5 (by rw [p5.length]; simp) p5 (fun l6 H6 xs6 z6 y6 e6 p6 => ?_)
    have s6 := s5.trans z6
    refine five (cs := [T.c 0, T.c 1, T.c 2, T.c 3, T.c 4, T.c 5, T.c 6, T.c 7, T.c 8, T.c 9, T.c 10, T.c 11, T.c 12, T.c 13, T.c 14, T.c 15, T.c 16, T.c 17, T.c 18, T.c 19, T.c 20, T.c 21, T.c 22, T.c 23, T.c 24, T.c 25, T.c 26, T.c 27, T.c 28, T.c 29]) e6 (by rw [p6.length]; simp) p6 (fun l7 H7 xs7 z7 y7 e7 p7 => ?_)
    have s7 := s6.trans z7
    refine five (cs := [T.c 0, T.c 1, T.c 2, T.c 3, T.c 4, T.c 5, T.c 6, T.c 7, T.c 8, T.c 9, T.c 10, T.c 11, T.c 12, T.c 13, T.c 14, T.c 15, T.c 16, T.c 17, T.c 18, T.c 19, T.c 20, T.c 21, T.c 22, T.c 23, T.c 24, T.c 25, T.c 26, T.c 27, T.c 28, T.c 29, T.c 30, T.c 31, T.c 32, T.c 33, T.c 34]) e7 (by rw [p7.length]; simp) p7 (fun l8 H8 xs8 z8 y8 e8 p8 => ?_)
    have s8 := s7.trans z8
    exact ⟨_, rfl, q l8 H8 _ s8 (s7.free y8) e8 p8⟩
theorem ok_filled {f : Addr} {fd : FuncData} (F : Fun K "_law_filled" "_law_filled" sFilled f fd) (T : Top P K mg) : FnOk P w K mg base CX0 2 f fd ["_law_each"] (spFilled T.c) := by
  have S := scFi
  refine F.ok S (fun vs H Q E h => ?_) (fun cdv A outer s H vs Q E hr h => ?_)
  · obtain ⟨v, rfl, _⟩ := h
    rfl
  · obtain ⟨v, rfl, q⟩ := h
    refine ⟨_, pss_cons (ps_set (i := 1) S.nd rfl (.inl rfl) (pe_lst pa_nil))
      (pss_cons (ps_expr (pe_bm PySem.F.plainAttrs_list PySem.F.slot_list_append PySem.F.type_list_append mt_append (pv 1) (pa_cons (pe_tup (pa_cons (pe_err (T.one 0 (by decide)) T.sup hr (by rfl) (T.mgc 40 (by decide)) (T.kp 40 (by decide)) (pv 0)) (pa_cons (pe_att (pe_errK (T.one 0 (by decide)) T.sup hr (by rfl) (T.mgc 40 (by decide)) (T.kp 40 (by decide)) (pv 0))) pa_nil))) pa_nil)))
      (pss_cons (ps_expr (pe_bm PySem.F.plainAttrs_list PySem.F.slot_list_append PySem.F.type_list_append mt_append (pv 1) (pa_cons (pe_tup (pa_cons (pe_err (T.one 1 (by decide)) T.sup hr (by rfl) (T.mgc 41 (by decide)) (T.kp 41 (by decide)) (pv 0)) (pa_cons (pe_att (pe_errK (T.one 1 (by decide)) T.sup hr (by rfl) (T.mgc 41 (by decide)) (T.kp 41 (by decide)) (pv 0))) pa_nil))) pa_nil)))
      (pss_cons (ps_expr (pe_bm PySem.F.plainAttrs_list PySem.F.slot_list_append PySem.F.type_list_append mt_append (pv 1) (pa_cons (pe_tup (pa_cons (pe_err (T.one 2 (by decide)) T.sup hr (by rfl) (T.mgc 42 (by decide)) (T.kp 42 (by decide)) (pv 0)) (pa_cons (pe_att (pe_errK (T.one 2 (by decide)) T.sup hr (by rfl) (T.mgc 42 (by decide)) (T.kp 42 (by decide)) (pv 0))) pa_nil))) pa_nil)))
      (pss_cons (ps_expr (pe_bm PySem.F.plainAttrs_list PySem.F.slot_list_append PySem.F.type_list_append mt_append (pv 1) (pa_cons (pe_tup (pa_cons (pe_err (T.one 3 (by decide)) T.sup hr (by rfl) (T.mgc 43 (by decide)) (T.kp 43 (by decide)) (pv 0)) (pa_cons (pe_att (pe_errK (T.one 3 (by decide)) T.sup hr (by rfl) (T.mgc 43 (by decide)) (T.kp 43 (by decide)) (pv 0))) pa_nil))) pa_nil)))
      (pss_cons (ps_expr (pe_bm PySem.F.plainAttrs_list PySem.F.slot_list_append PySem.F.type_list_append mt_append (pv 1) (pa_cons (pe_tup (pa_cons (pe_err (T.one 4 (by decide)) T.sup hr (by rfl) (T.mgc 44 (by decide)) (T.kp 44 (by decide)) (pv 0)) (pa_cons (pe_att (pe_errK (T.one 4 (by decide)) T.sup hr (by rfl) (T.mgc 44 (by decide)) (T.kp 44 (by decide)) (pv 0))) pa_nil))) pa_nil)))
      (pss_cons (ps_expr (pe_bm PySem.F.plainAttrs_list PySem.F.slot_list_append PySem.F.type_list_append mt_append (pv 1) (pa_cons (pe_tup (pa_cons (pe_err (T.one 5 (by decide)) T.sup hr (by rfl) (T.mgc 45 (by decide)) (T.kp 45 (by decide)) (pv 0)) (pa_cons (pe_att (pe_errK (T.one 5 (by decide)) T.sup hr (by rfl) (T.mgc 45 (by decide)) (T.kp 45 (by decide)) (pv 0))) pa_nil))) pa_nil)))
      (pss_cons (ps_expr (pe_bm PySem.F.plainAttrs_list PySem.F.slot_list_append PySem.F.type_list_append mt_append (pv 1) (pa_cons (pe_tup (pa_cons (pe_err (T.one 6 (by decide)) T.sup hr (by rfl) (T.mgc 46 (by decide)) (T.kp 46 (by decide)) (pv 0)) (pa_cons (pe_att (pe_errK (T.one 6 (by decide)) T.sup hr (by rfl) (T.mgc 46 (by decide)) (T.kp 46 (by decide)) (pv 0))) pa_nil))) pa_nil)))
      (pss_cons (ps_expr (pe_bm PySem.F.plainAttrs_list PySem.F.slot_list_append PySem.F.type_list_append mt_append (pv 1) (pa_cons (pe_tup (pa_cons (pe_err (T.one 7 (by decide)) T.sup hr (by rfl) (T.mgc 47 (by decide)) (T.kp 47 (by decide)) (pv 0)) (pa_cons (pe_att (pe_errK (T.one 7 (by decide)) T.sup hr (by rfl) (T.mgc 47 (by decide)) (T.kp 47 (by decide)) (pv 0))) pa_nil))) pa_nil)))
      (pss_cons (ps_expr (pe_bm PySem.F.plainAttrs_list PySem.F.slot_list_append PySem.F.type_list_append mt_append (pv 1) (pa_cons (pe_tup (pa_cons (pe_err (T.one 8 (by decide)) T.sup hr (by rfl) (T.mgc 48 (by decide)) (T.kp 48 (by decide)) (pv 0)) (pa_cons (pe_att (pe_errK (T.one 8 (by decide)) T.sup hr (by rfl) (T.mgc 48 (by decide)) (T.kp 48 (by decide)) (pv 0))) pa_nil))) pa_nil)))
      (pss_cons (ps_expr (pe_bm PySem.F.plainAttrs_list PySem.F.slot_list_append PySem.F.type_list_append mt_append (pv 1) (pa_cons (pe_tup (pa_cons (pe_err (T.one 9 (by decide)) T.sup hr (by rfl) (T.mgc 49 (by decide)) (T.kp 49 (by decide)) (pv 0)) (pa_cons (pe_att (pe_errK (T.one 9 (by decide)) T.sup hr (by rfl) (T.mgc 49 (by decide)) (T.kp 49 (by decide)) (pv 0))) pa_nil))) pa_nil)))
      (pss_cons (ps_expr (pe_bm PySem.F.plainAttrs_list PySem.F.slot_list_append PySem.F.type_list_append mt_append (pv 1) (pa_cons (pe_tup (pa_cons (pe_err (T.one 10 (by decide)) T.sup hr (by rfl) (T.mgc 50 (by decide)) (T.kp 50 (by decide)) (pv 0)) (pa_cons (pe_att (pe_errK (T.one 10 (by decide)) T.sup hr (by rfl) (T.mgc 50 (by decide)) (T.kp 50 (by decide)) (pv 0))) pa_nil))) pa_nil)))
      (pss_cons (ps_expr (pe_bm PySem.F.plainAttrs_list PySem.F.slot_list_append PySem.F.type_list_append mt_append (pv 1) (pa_cons (pe_tup (pa_cons (pe_err (T.one 11 (by decide)) T.sup hr (by rfl) (T.mgc 51 (by decide)) (T.kp 51 (by decide)) (pv 0)) (pa_cons (pe_att (pe_errK (T.one 11 (by decide)) T.sup hr (by rfl) (T.mgc 51 (by decide)) (T.kp 51 (by decide)) (pv 0))) pa_nil))) pa_nil)))
      (pss_cons (ps_expr (pe_bm PySem.F.plainAttrs_list PySem.F.slot_list_append PySem.F.type_list_append mt_append (pv 1) (pa_cons (pe_tup (pa_cons (pe_err (T.one 12 (by decide)) T.sup hr (by rfl) (T.mgc 52 (by decide)) (T.kp 52 (by decide)) (pv 0)) (pa_cons (pe_att (pe_errK (T.one 12 (by decide)) T.sup hr (by rfl) (T.mgc 52 (by decide)) (T.kp 52 (by decide)) (pv 0))) pa_nil))) pa_nil)))
      (pss_cons (ps_expr (pe_bm PySem.F.plainAttrs_list PySem.F.slot_list_append PySem.F.type_list_append mt_append (pv 1) (pa_cons (pe_tup (pa_cons (pe_err (T.one 13 (by decide)) T.sup hr (by rfl) (T.mgc 53 (by decide)) (T.kp 53 (by decide)) (pv 0)) (pa_cons (pe_att (pe_errK (T.one 13 (by decide)) T.sup hr (by rfl) (T.mgc 53 (by decide)) (T.kp 53 (by decide)) (pv 0))) pa_nil))) pa_nil)))
      (pss_cons (ps_expr (pe_bm PySem.F.plainAttrs_list PySem.F.slot_list_append PySem.F.type_list_append mt_append (pv 1) (pa_cons (pe_tup (pa_cons (pe_err (T.one 14 (by decide)) T.sup hr (by rfl) (T.mgc 54 (by decide)) (T.kp 54 (by decide)) (pv 0)) (pa_cons (pe_att (pe_errK (T.one 14 (by decide)) T.sup hr (by rfl) (T.mgc 54 (by decide)) (T.kp 54 (by decide)) (pv 0))) pa_nil))) pa_nil)))
      (pss_cons (ps_expr (pe_bm PySem.F.plainAttrs_list PySem.F.slot_list_append PySem.F.type_list_append mt_append (pv 1) (pa_cons (pe_tup (pa_cons (pe_err (T.one 15 (by decide)) T.sup hr (by rfl) (T.mgc 55 (by decide)) (T.kp 55 (by decide)) (pv 0)) (pa_cons (pe_att (pe_errK (T.one 15 (by decide)) T.sup hr (by rfl) (T.mgc 55 (by decide)) (T.kp 55 (by decide)) (pv 0))) pa_nil))) pa_nil)))
      (pss_cons (ps_expr (pe_bm PySem.F.plainAttrs_list PySem.F.slot_list_append PySem.F.type_list_append mt_append (pv 1) (pa_cons (pe_tup (pa_cons (pe_err (T.one 16 (by decide)) T.sup hr (by rfl) (T.mgc 56 (by decide)) (T.kp 56 (by decide)) (pv 0)) (pa_cons (pe_att (pe_errK (T.one 16 (by decide)) T.sup hr (by rfl) (T.mgc 56 (by decide)) (T.kp 56 (by decide)) (pv 0))) pa_nil))) pa_nil)))
      (pss_cons (ps_expr (pe_bm PySem.F.plainAttrs_list PySem.F.slot_list_append PySem.F.type_list_append mt_append (pv 1) (pa_cons (pe_tup (pa_cons (pe_err (T.one 17 (by decide)) T.sup hr (by rfl) (T.mgc 57 (by decide)) (T.kp 57 (by decide)) (pv 0)) (pa_cons (pe_att (pe_errK (T.one 17 (by decide)) T.sup hr (by rfl) (T.mgc 57 (by decide)) (T.kp 57 (by decide)) (pv 0))) pa_nil))) pa_nil)))
      (pss_cons (ps_expr (pe_bm PySem.F.plainAttrs_list PySem.F.slot_list_append PySem.F.type_list_append mt_append (pv 1) (pa_cons (pe_tup (pa_cons (pe_err (T.one 18 (by decide)) T.sup hr (by rfl) (T.mgc 58 (by decide)) (T.kp 58 (by decide)) (pv 0)) (pa_cons (pe_att (pe_errK (T.one 18 (by decide)) T.sup hr (by rfl) (T.mgc 58 (by decide)) (T.kp 58 (by decide)) (pv 0))) pa_nil))) pa_nil)))
      (pss_cons (ps_expr (pe_bm PySem.F.plainAttrs_list PySem.F.slot_list_append PySem.F.type_list_append mt_append (pv 1) (pa_cons (pe_tup (pa_cons (pe_err (T.one 19 (by decide)) T.sup hr (by rfl) (T.mgc 59 (by decide)) (T.kp 59 (by decide)) (pv 0)) (pa_cons (pe_att (pe_errK (T.one 19 (by decide)) T.sup hr (by rfl) (T.mgc 59 (by decide)) (T.kp 59 (by decide)) (pv 0))) pa_nil))) pa_nil)))
      (pss_one (ps_ret (pv 1))))))))))))))))))))))), ?_⟩
    refine ⟨Nat.zero_le _, fun l n0 => ?_⟩
    have s0 : Save l H (upd H l (.lst [])) := Save.new n0
    have e0 : (upd H l (.lst [])) l = some (.lst []) := upd_same
    generalize upd H l (.lst []) = H0 at s0 e0 ⊢
    have p0 : Paired (Pr H0 v) [] [] := .nil
    refine pair (T.is 40 (by decide)) (T.no 0 (by decide)) (cs := []) e0 (by rw [p0.length]; simp) p0 n0 s0 (fun H1 t1 z1 e1 p1 => ?_)
    have s1 := s0.trans z1
    refine pair (T.is 41 (by decide)) (T.no 1 (by decide)) (cs := [(T.c 40, "part")]) e1 (by rw [p1.length]; simp) p1 n0 s1 (fun H2 t2 z2 e2 p2 => ?_)
    have s2 := s1.trans z2
    refine pair (T.is 42 (by decide)) (T.no 2 (by decide)) (cs := [(T.c 40, "part"), (T.c 41, "part")]) e2 (by rw [p2.length]; simp) p2 n0 s2 (fun H3 t3 z3 e3 p3 => ?_)
    have s3 := s2.trans z3
    refine pair (T.is 43 (by decide)) (T.no 3 (by decide)) (cs := [(T.c 40, "part"), (T.c 41, "part"), (T.c 42, "part")]) e3 (by rw [p3.length]; simp) p3 n0 s3 (fun H4 t4 z4 e4 p4 => ?_)
    have s4 := s3.trans z4
    refine pair (T.is 44 (by decide)) (T.no 4 (by decide)) (cs := [(T.c 40, "part"), (T.c 41, "part"), (T.c 42, "part"), (T.c 43, "at")]) e4 (by rw [p4.length]; simp) p4 n0 s4 (fun H5 t5 z5 e5 p5 => ?_)
    have s5 := s4.trans z5
    refine pair (T.is 45 (by decide)) (T.no 5 (by decide)) (cs := [(T.c 40, "part"), (T.c 41, "part"), (T.c 42, "part"), (T.c 43, "at"), (T.c 44, "name")]) e5 (by rw [p5.length]; simp) p5 n0 s5 (fun H6 t6 z6 e6 p6 => ?_)
    have s6 := s5.trans z6
    refine pair (T.is 46 (by decide)) (T.no 6 (by decide)) (cs := [(T.c 40, "part"), (T.c 41, "part"), (T.c 42, "part"), (T.c 43, "at"), (T.c 44, "name"), (T.c 45, "spot")]) e6 (by rw [p6.length]; simp) p6 n0 s6 (fun H7 t7 z7 e7 p7 => ?_)
    have s7 := s6.trans z7
    refine pair (T.is 47 (by decide)) (T.no 7 (by decide)) (cs := [(T.c 40, "part"), (T.c 41, "part"), (T.c 42, "part"), (T.c 43, "at"), (T.c 44, "name"), (T.c 45, "spot"), (T.c 46, "most")]) e7 (by rw [p7.length]; simp) p7 n0 s7 (fun H8 t8 z8 e8 p8 => ?_)
    have s8 := s7.trans z8
    refine pair (T.is 48 (by decide)) (T.no 8 (by decide)) (cs := [(T.c 40, "part"), (T.c 41, "part"), (T.c 42, "part"), (T.c 43, "at"), (T.c 44, "name"), (T.c 45, "spot"), (T.c 46, "most"), (T.c 47, "kind")]) e8 (by rw [p8.length]; simp) p8 n0 s8 (fun H9 t9 z9 e9 p9 => ?_)
    have s9 := s8.trans z9
    refine pair (T.is 49 (by decide)) (T.no 9 (by decide)) (cs := [(T.c 40, "part"), (T.c 41, "part"), (T.c 42, "part"), (T.c 43, "at"), (T.c 44, "name"), (T.c 45, "spot"), (T.c 46, "most"), (T.c 47, "kind"), (T.c 48, "part")]) e9 (by rw [p9.length]; simp) p9 n0 s9 (fun H10 t10 z10 e10 p10 => ?_)
    have s10 := s9.trans z10
    refine pair (T.is 50 (by decide)) (T.no 10 (by decide)) (cs := [(T.c 40, "part"), (T.c 41, "part"), (T.c 42, "part"), (T.c 43, "at"), (T.c 44, "name"), (T.c 45, "spot"), (T.c 46, "most"), (T.c 47, "kind"), (T.c 48, "part"), (T.c 49, "part")]) e10 (by rw [p10.length]; simp) p10 n0 s10 (fun H11 t11 z11 e11 p11 => ?_)
    have s11 := s10.trans z11
    refine pair (T.is 51 (by decide)) (T.no 11 (by decide)) (cs := [(T.c 40, "part"), (T.c 41, "part"), (T.c 42, "part"), (T.c 43, "at"), (T.c 44, "name"), (T.c 45, "spot"), (T.c 46, "most"), (T.c 47, "kind"), (T.c 48, "part"), (T.c 49, "part"), (T.c 50, "at")]) e11 (by rw [p11.length]; simp) p11 n0 s11 (fun H12 t12 z12 e12 p12 => ?_)
    have s12 := s11.trans z12
    refine pair (T.is 52 (by decide)) (T.no 12 (by decide)) (cs := [(T.c 40, "part"), (T.c 41, "part"), (T.c 42, "part"), (T.c 43, "at"), (T.c 44, "name"), (T.c 45, "spot"), (T.c 46, "most"), (T.c 47, "kind"), (T.c 48, "part"), (T.c 49, "part"), (T.c 50, "at"), (T.c 51, "at")]) e12 (by rw [p12.length]; simp) p12 n0 s12 (fun H13 t13 z13 e13 p13 => ?_)
    have s13 := s12.trans z13
    refine pair (T.is 53 (by decide)) (T.no 13 (by decide)) (cs := [(T.c 40, "part"), (T.c 41, "part"), (T.c 42, "part"), (T.c 43, "at"), (T.c 44, "name"), (T.c 45, "spot"), (T.c 46, "most"), (T.c 47, "kind"), (T.c 48, "part"), (T.c 49, "part"), (T.c 50, "at"), (T.c 51, "at"), (T.c 52, "at")]) e13 (by rw [p13.length]; simp) p13 n0 s13 (fun H14 t14 z14 e14 p14 => ?_)
    have s14 := s13.trans z14
    refine pair (T.is 54 (by decide)) (T.no 14 (by decide)) (cs := [(T.c 40, "part"), (T.c 41, "part"), (T.c 42, "part"), (T.c 43, "at"), (T.c 44, "name"), (T.c 45, "spot"), (T.c 46, "most"), (T.c 47, "kind"), (T.c 48, "part"), (T.c 49, "part"), (T.c 50, "at"), (T.c 51, "at"), (T.c 52, "at"), (T.c 53, "at")]) e14 (by rw [p14.length]; simp) p14 n0 s14 (fun H15 t15 z15 e15 p15 => ?_)
    have s15 := s14.trans z15
    refine pair (T.is 55 (by decide)) (T.no 15 (by decide)) (cs := [(T.c 40, "part"), (T.c 41, "part"), (T.c 42, "part"), (T.c 43, "at"), (T.c 44, "name"), (T.c 45, "spot"), (T.c 46, "most"), (T.c 47, "kind"), (T.c 48, "part"), (T.c 49, "part"), (T.c 50, "at"), (T.c 51, "at"), (T.c 52, "at"), (T.c 53, "at"), (T.c 54, "at")]) e15 (by rw [p15.length]; simp) p15 n0 s15 (fun H16 t16 z16 e16 p16 => ?_)
    have s16 := s15.trans z16
    refine pair (T.is 56 (by decide)) (T.no 16 (by decide)) (cs := [(T.c 40, "part"), (T.c 41, "part"), (T.c 42, "part"), (T.c 43, "at"), (T.c 44, "name"), (T.c 45, "spot"), (T.c 46, "most"), (T.c 47, "kind"), (T.c 48, "part"), (T.c 49, "part"), (T.c 50, "at"), (T.c 51, "at"), (T.c 52, "at"), (T.c 53, "at"), (T.c 54, "at"), (T.c 55, "name")]) e16 (by rw [p16.length]; simp) p16 n0 s16 (fun H17 t17 z17 e17 p17 => ?_)
    have s17 := s16.trans z17
    refine pair (T.is 57 (by decide)) (T.no 17 (by decide)) (cs := [(T.c 40, "part"), (T.c 41, "part"), (T.c 42, "part"), (T.c 43, "at"), (T.c 44, "name"), (T.c 45, "spot"), (T.c 46, "most"), (T.c 47, "kind"), (T.c 48, "part"), (T.c 49, "part"), (T.c 50, "at"), (T.c 51, "at"), (T.c 52, "at"), (T.c 53, "at"), (T.c 54, "at"), (T.c 55, "name"), (T.c 56, "at")]) e17 (by rw [p17.length]; simp) p17 n0 s17 (fun H18 t18 z18 e18 p18 => ?_)
    have s18 := s17.trans z18
    refine pair (T.is 58 (by decide)) (T.no 18 (by decide)) (cs := [(T.c 40, "part"), (T.c 41, "part"), (T.c 42, "part"), (T.c 43, "at"), (T.c 44, "name"), (T.c 45, "spot"), (T.c 46, "most"), (T.c 47, "kind"), (T.c 48, "part"), (T.c 49, "part"), (T.c 50, "at"), (T.c 51, "at"), (T.c 52, "at"), (T.c 53, "at"), (T.c 54, "at"), (T.c 55, "name"), (T.c 56, "at"), (T.c 57, "word")]) e18 (by rw [p18.length]; simp) p18 n0 s18 (fun H19 t19 z19 e19 p19 => ?_)
    have s19 := s18.trans z19
    refine pair (T.is 59 (by decide)) (T.no 19 (by decide)) (cs := [(T.c 40, "part"), (T.c 41, "part"), (T.c 42, "part"), (T.c 43, "at"), (T.c 44, "name"), (T.c 45, "spot"), (T.c 46, "most"), (T.c 47, "kind"), (T.c 48, "part"), (T.c 49, "part"), (T.c 50, "at"), (T.c 51, "at"), (T.c 52, "at"), (T.c 53, "at"), (T.c 54, "at"), (T.c 55, "name"), (T.c 56, "at"), (T.c 57, "word"), (T.c 58, "at")]) e19 (by rw [p19.length]; simp) p19 n0 s19 (fun H20 t20 z20 e20 p20 => ?_)
    have s20 := s19.trans z20
    exact ⟨_, rfl, q l H20 _ (fun b o z => s20 b o z (ne_of_none z n0)) n0 e20 p20⟩
end
end Kn
set_option maxHeartbeats 8000000
namespace Kn
open PySem PySem.Spec PyProof.Rows L2 Err
/-- the i-th of some values is an error that keeps v under this name -/
def Kp (K : PySem.W.Frag) (H : Hp) (v : V) (es : List V) (i : Nat) (p : Str) : Prop := ∃ e c d, es[i]? = some (.ref e) ∧ H e = some (exo e c (some d)) ∧ H d = some (exd d [(p, v)]) ∧ Isi K c ∧ PySem.W.findIn K (.ref c) p = some none
theorem Kp.same {K : PySem.W.Frag} {H H' : Hp} {v : V} {es : List V} {i : Nat} {p : Str} (h : Kp K H v es i p) (s : Same H H') : Kp K H' v es i p := by
  obtain ⟨e, c, d, h0, h1, h2, h3, h4⟩ := h
  exact ⟨e, c, d, h0, s _ _ h1, s _ _ h2, h3, h4⟩
theorem one_of {K : PySem.W.Frag} {H : Hp} {v : V} {s : Addr} {es : List V} {i : Nat} {p : Str} {r : V → Hp → Prop} {y : Option V} (hS : SqL K H s es) (h : Kp K H v es i p) (q : r v H) : tIt K p (i : Int) [some (.ref s), y] H r := by
  obtain ⟨e, c, d, h0, h1, h2, h3, h4⟩ := h
  exact ⟨_, rfl, s, es, _, _, rfl, rfl, hS, atI_nat h0, e, c, d, _, v, rfl, h1, h2, h3, h4, by rw [lookup_put, if_pos rfl], q⟩
theorem rep_app (n : Nat) (v : V) : List.replicate n v ++ [v, v, v, v] = List.replicate (n + 4) v := by
  rw [show [v, v, v, v] = List.replicate 4 v from rfl, List.replicate_append_replicate]
theorem four {K : PySem.W.Frag} {v : V} {s l n : Nat} {es : List V} {i0 i1 i2 i3 : Nat} {p0 p1 p2 p3 : Str} {H : Hp} {Dn : Ends} (hS : SqL K H s es) (h0 : Kp K H v es i0 p0) (h1 : Kp K H v es i1 p1) (h2 : Kp K H v es i2 p2) (h3 : Kp K H v es i3 p3)
    (hl : H l = some (.lst (List.replicate n v))) (hz : n ≤ 900)
    (q : ∀ l' H', Same H H' → H l' = none → H' l' = some (.lst (List.replicate (n + 4) v)) → Dn.nx [some (.ref s), some (.ref l')] H') :
    (tAsg (tOp rCat (tVar 1) (tLst (tCons (tIt K p0 (i0 : Int)) (tCons (tIt K p1 (i1 : Int)) (tCons (tIt K p2 (i2 : Int)) (tCons (tIt K p3 (i3 : Int)) tNil)))))) (gName 1)) Dn [some (.ref s), some (.ref l)] H := by
  refine ⟨_, rfl, one_of hS h0 (one_of hS h1 (one_of hS h2 (one_of hS h3 ⟨by show 4 ≤ sizeLine; decide, fun p np => ?_⟩)))⟩
  have lp : l ≠ p := ne_of_none hl np
  refine ⟨l, p, _, _, rfl, rfl, by rw [upd_ne lp]; exact hl, upd_same, ?_, fun r nr => ?_⟩
  · have z : (900 : Nat) + 4 < sizeLine := by decide
    rw [List.length_replicate]
    show n + 4 ≤ sizeLine
    omega
  · rw [rep_app]
    exact q r _ (fun b o z => by rw [upd_ne (ne_of_none ((same_new np) b o z) nr)]; exact same_new np b o z) ((same_new np).free nr) upd_same
def spKept (K : PySem.W.Frag) : Sp := fun vs H Q _ => ∃ s es v, vs = [.ref s] ∧ SqL K H s es ∧ (∀ i, i < 20 → Kp K H v es i (AT.getD i "")) ∧ ∀ l H', Same H H' → H l = none → H' l = some (.lst (List.replicate 20 v)) → Q (.ref l) H'
section
variable {P : Program} {w : World} {K : PySem.W.Frag} {mg : Str → Option Value} {base : Heap}
theorem ok_kept {f : Addr} {fd : FuncData} (F : Fun K "_law_kept" "_law_kept" sKept f fd) : FnOk P w K mg base CX0 1 f fd ["_law_some"] (spKept K) := by
  have S := scKe
  refine F.ok S (fun vs H Q E h => ?_) (fun cdv A outer s H vs Q E hr h => ?_)
  · obtain ⟨s, es, v, rfl, _⟩ := h
    rfl
  · obtain ⟨s, es, v, rfl, hS, kp, q⟩ := h
    refine ⟨_, pss_cons (ps_set (i := 1) S.nd rfl (.inl rfl) (pe_lst pa_nil))
      (pss_cons (ps_set (i := 1) S.nd rfl (.inl rfl) (pe_op op_cat (pv 1) (pe_lst (pa_cons (pe_att (pe_ix ix_list (pv 0) pe_int (fun _ _ => rfl))) (pa_cons (pe_att (pe_ix ix_list (pv 0) pe_int (fun _ _ => rfl))) (pa_cons (pe_att (pe_ix ix_list (pv 0) pe_int (fun _ _ => rfl))) (pa_cons (pe_att (pe_ix ix_list (pv 0) pe_int (fun _ _ => rfl))) pa_nil)))))))
      (pss_cons (ps_set (i := 1) S.nd rfl (.inl rfl) (pe_op op_cat (pv 1) (pe_lst (pa_cons (pe_att (pe_ix ix_list (pv 0) pe_int (fun _ _ => rfl))) (pa_cons (pe_att (pe_ix ix_list (pv 0) pe_int (fun _ _ => rfl))) (pa_cons (pe_att (pe_ix ix_list (pv 0) pe_int (fun _ _ => rfl))) (pa_cons (pe_att (pe_ix ix_list (pv 0) pe_int (fun _ _ => rfl))) pa_nil)))))))
      (pss_cons (ps_set (i := 1) S.nd rfl (.inl rfl) (pe_op op_cat (pv 1) (pe_lst (pa_cons (pe_att (pe_ix ix_list (pv 0) pe_int (fun _ _ => rfl))) (pa_cons (pe_att (pe_ix ix_list (pv 0) pe_int (fun _ _ => rfl))) (pa_cons (pe_att (pe_ix ix_list (pv 0) pe_int (fun _ _ => rfl))) (pa_cons (pe_att (pe_ix ix_list (pv 0) pe_int (fun _ _ => rfl))) pa_nil)))))))
      (pss_cons (ps_set (i := 1) S.nd rfl (.inl rfl) (pe_op op_cat (pv 1) (pe_lst (pa_cons (pe_att (pe_ix ix_list (pv 0) pe_int (fun _ _ => rfl))) (pa_cons (pe_att (pe_ix ix_list (pv 0) pe_int (fun _ _ => rfl))) (pa_cons (pe_att (pe_ix ix_list (pv 0) pe_int (fun _ _ => rfl))) (pa_cons (pe_att (pe_ix ix_list (pv 0) pe_int (fun _ _ => rfl))) pa_nil)))))))
      (pss_cons (ps_set (i := 1) S.nd rfl (.inl rfl) (pe_op op_cat (pv 1) (pe_lst (pa_cons (pe_att (pe_ix ix_list (pv 0) pe_int (fun _ _ => rfl))) (pa_cons (pe_att (pe_ix ix_list (pv 0) pe_int (fun _ _ => rfl))) (pa_cons (pe_att (pe_ix ix_list (pv 0) pe_int (fun _ _ => rfl))) (pa_cons (pe_att (pe_ix ix_list (pv 0) pe_int (fun _ _ => rfl))) pa_nil)))))))
      (pss_one (ps_ret (pv 1)))))))), ?_⟩
    refine ⟨Nat.zero_le _, fun l0 n0 => ?_⟩
    have s0 : Same H (upd H l0 (.lst [])) := same_new n0
    have e0 : (upd H l0 (.lst [])) l0 = some (.lst (List.replicate 0 v)) := upd_same
    generalize upd H l0 (.lst []) = H0 at s0 e0 ⊢
    refine four (n := 0) (i0 := 0) (i1 := 1) (i2 := 2) (i3 := 3) (s0.seq hS) ((kp 0 (by decide)).same s0) ((kp 1 (by decide)).same s0) ((kp 2 (by decide)).same s0) ((kp 3 (by decide)).same s0) e0 (by decide) (fun l1 H1 z1 y1 e1 => ?_)
    have s1 := s0.trans z1
    refine four (n := 4) (i0 := 4) (i1 := 5) (i2 := 6) (i3 := 7) (s1.seq hS) ((kp 4 (by decide)).same s1) ((kp 5 (by decide)).same s1) ((kp 6 (by decide)).same s1) ((kp 7 (by decide)).same s1) e1 (by decide) (fun l2 H2 z2 y2 e2 => ?_)
    have s2 := s1.trans z2
    refine four (n := 8) (i0 := 8) (i1 := 9) (i2 := 10) (i3 := 11) (s2.seq hS) ((kp 8 (by decide)).same s2) ((kp 9 (by decide)).same s2) ((kp 10 (by decide)).same s2) ((kp 11 (by decide)).same s2) e2 (by decide) (fun l3 H3 z3 y3 e3 => ?_)
    have s3 := s2.trans z3
    refine four (n := 12) (i0 := 12) (i1 := 13) (i2 := 14) (i3 := 15) (s3.seq hS) ((kp 12 (by decide)).same s3) ((kp 13 (by decide)).same s3) ((kp 14 (by decide)).same s3) ((kp 15 (by decide)).same s3) e3 (by decide) (fun l4 H4 z4 y4 e4 => ?_)
    have s4 := s3.trans z4
    refine four (n := 16) (i0 := 16) (i1 := 17) (i2 := 18) (i3 := 19) (s4.seq hS) ((kp 16 (by decide)).same s4) ((kp 17 (by decide)).same s4) ((kp 18 (by decide)).same s4) ((kp 19 (by decide)).same s4) e4 (by decide) (fun l5 H5 z5 y5 e5 => ?_)
    have s5 := s4.trans z5
    exact ⟨_, rfl, q l5 H5 s5 (s4.free y5) e5⟩
end
end Kn
set_option maxHeartbeats 8000000
namespace Kn
open PySem PySem.Spec PyProof.Rows L2 Err
/-- one of the fourteen values; T a o: a holds o -/
inductive AnyV (T : Addr → HO → Prop) : V → PyData → Prop
  | non : AnyV T .non .none
  | no : AnyV T (.bl false) (.bool false)
  | num : AnyV T (.int 3) (.int 3)
  | big : AnyV T (.int (-(10 ^ 50))) (.int (-(10 ^ 50)))
  | s0 : AnyV T (.str "") (.str "")
  | s1 : AnyV T (.str "sum") (.str "sum")
  | s2 : AnyV T (.str "a b") (.str "a b")
  | l0 {a : Addr} (h : T a (.lst [])) : AnyV T (.ref a) (.list [])
  | l1 {a t : Addr} (h : T a (.lst [.ref t])) (ht : T t (.tup [.str "add", .int 1])) : AnyV T (.ref a) (.list [.tuple [.str "add", .int 1]])
  | t0 {a : Addr} (h : T a (.tup [])) : AnyV T (.ref a) (.tuple [])
  | t2 {a : Addr} (h : T a (.tup [.str "plus", .str "a"])) : AnyV T (.ref a) (.tuple [.str "plus", .str "a"])
  | d0 {a : Addr} (h : T a (.dK [])) : AnyV T (.ref a) (.dict [])
  | d1 {a t : Addr} (h : T a (.dK [(Sum.inr "a", .ref t)])) (ht : T t (.tup [])) : AnyV T (.ref a) (.dict [(.str "a", .tuple [])])
  | ll {a t : Addr} (h : T a (.lst [.ref t])) (ht : T t (.lst [])) : AnyV T (.ref a) (.list [.list []])
theorem AnyV.mono {T U : Addr → HO → Prop} {v : V} {d : PyData} (h : AnyV T v d) (m : ∀ a o, T a o → U a o) : AnyV U v d := by
  cases h with
  | non => exact .non
  | no => exact .no
  | num => exact .num
  | big => exact .big
  | s0 => exact .s0
  | s1 => exact .s1
  | s2 => exact .s2
  | l0 h => exact .l0 (m _ _ h)
  | l1 h ht => exact .l1 (m _ _ h) (m _ _ ht)
  | t0 h => exact .t0 (m _ _ h)
  | t2 h => exact .t2 (m _ _ h)
  | d0 h => exact .d0 (m _ _ h)
  | d1 h ht => exact .d1 (m _ _ h) (m _ _ ht)
  | ll h ht => exact .ll (m _ _ h) (m _ _ ht)
theorem AnyV.tx {K : PySem.W.Frag} {H : Hp} {v : V} {d : PyData} (h : AnyV (fun a o => H a = some o) v d) : Rp.Tx K H v d := by
  cases h with
  | non => exact .dp .non rfl
  | no => exact .dp (.bl _) rfl
  | num => exact .dp (.int _) rfl
  | big => exact .dp (.int _) rfl
  | s0 => exact .dp (.str _) rfl
  | s1 => exact .dp (.str _) rfl
  | s2 => exact .dp (.str _) rfl
  | l0 h => exact .dp (.lst (SqL.of h) .nil) rfl
  | l1 h ht => exact .dp (.lst (SqL.of h) (.cons (.tup (SqT.of ht) (.cons (.str _) (.cons (.int _) .nil))) .nil)) rfl
  | t0 h => exact .dp (.tup (SqT.of h) .nil) rfl
  | t2 h => exact .dp (.tup (SqT.of h) (.cons (.str _) (.cons (.str _) .nil))) rfl
  | d0 h => exact (Rp.Ty.dK h .nil).tx
  | d1 h ht => exact (Rp.Ty.dK h (.cons (Rp.Ty.tup0 ht) .nil)).tx
  | ll h ht => exact .dp (.lst (SqL.of h) (.cons (.lst (SqL.of ht) .nil) .nil)) rfl
/-- how such a value, and twenty of it, is written -/
def fitB (d : PyData) : Bool := d.showable && decide (d.depth ≤ 50) && decide (d.shown.length ≤ sizeLine) && (PyData.list (List.replicate 20 d)).showable && decide ((PyData.list (List.replicate 20 d)).depth ≤ 50) && decide ((PyData.list (List.replicate 20 d)).shown.length ≤ sizeLine)
theorem AnyV.fit {T : Addr → HO → Prop} {v : V} {d : PyData} (h : AnyV T v d) : fitB d = true := by
  cases h <;> decide +kernel
end Kn
set_option maxHeartbeats 8000000
namespace Kn
open PySem PySem.Spec PyProof.Rows L2 Err
theorem Drw.same {H H' : Hp} {d l c : Addr} (D : Drw H d l c) (s : Same H H') : Drw H' d l c := by
  obtain ⟨⟨r, t, h⟩, ⟨ns, hl⟩, ⟨ms, hc⟩, n⟩ := D
  exact ⟨⟨r, t, s _ _ h⟩, ⟨ns, s _ _ hl⟩, ⟨ms, s _ _ hc⟩, n⟩
abbrev sAny : Stmt := topS 67
theorem scAn : FnScope ["_law_draw", "_law_some"] ["_law_draw"] (defScope sAny) := ⟨rfl, rfl, rfl, by decide +kernel, rfl, by decide +kernel, by decide +kernel⟩
def spAny : Sp := fun vs H Q _ => ∃ d l c, vs = [.ref d] ∧ Drw H d l c ∧ ∀ v dt H', AnyV (fun a o => H' a = some o ∧ H a = none) v dt → Drw H' d l c → But d l H H' → Q v H'
section
variable {P : Program} {w : World} {K : PySem.W.Frag} {mg : Str → Option Value} {base : Heap}
theorem ok_any {f fP : Addr} {fd fdP : FuncData} (F : Fun K "_law_any" "_law_any" sAny f fd) (GP : FnOk P w K mg base CX0 3 fP fdP ["_law_draw", "_law_some"] spPick) (kP : PySem.W.keepIn K (.ref fP) = true) (bP : Binds K fdP ["_law_draw", "_law_some"] []) (gP : mg "_law_pick" = some (.ref fP)) :
    FnOk P w K mg base CX0 4 f fd ["_law_draw"] spAny := by
  have S := scAn
  refine F.ok S (fun vs H Q E h => ?_) (fun cdv A outer s H vs Q E hr h => ?_)
  · obtain ⟨d, l, c, rfl, _⟩ := h
    rfl
  · obtain ⟨d, l, c, rfl, D, q⟩ := h
    refine ⟨_, pss_cons (ps_set (i := 1) S.nd rfl (.inl rfl) (pe_lst (pa_cons pe_non (pa_cons pe_bl (pa_cons pe_int (pa_cons (pe_un un_neg (pe_op op_pow pe_int pe_int)) (pa_cons pe_str (pa_cons pe_str (pa_cons pe_str (pa_cons (pe_lst pa_nil)
        (pa_cons (pe_lst (pa_cons (pe_tup (pa_cons pe_str (pa_cons pe_int pa_nil))) pa_nil)) (pa_cons (pe_tup pa_nil) (pa_cons (pe_tup (pa_cons pe_str (pa_cons pe_str pa_nil))) (pa_cons pe_dnewK
        (pa_cons (pe_disp (pps_cons pe_str (pe_tup pa_nil) pps_nil) rfl rfl (by decide) (by decide)) (pa_cons (pe_lst (pa_cons (pe_lst pa_nil) pa_nil)) pa_nil))))))))))))))))
      (pss_one (ps_ret (pe_call GP hr (by rfl) gP kP bP .nil pass0 (pa_cons (pv 0) (pa_cons (pv 1) pa_nil))))), ?_⟩
    refine ⟨_, _, rfl, rfl, ⟨by decide, by decide, by decide⟩, _, rfl, ?_⟩
    -- the lists, the tuples, the dicts
    refine ⟨Nat.zero_le _, fun a1 n1 => ?_⟩
    have z1 := same_new (o := .lst []) n1
    have e1 : upd H a1 (.lst []) a1 = some (.lst []) := upd_same
    generalize upd H a1 (.lst []) = H1 at z1 e1 ⊢
    refine ⟨by show 2 ≤ sizeLine; decide, fun a2 n2 => ?_⟩
    have z2 := same_new (o := .tup [.str "add", .int 1]) n2
    have e2 : upd H1 a2 (.tup [.str "add", .int 1]) a2 = some (.tup [.str "add", .int 1]) := upd_same
    generalize upd H1 a2 (.tup [.str "add", .int 1]) = H2 at z2 e2 ⊢
    refine ⟨by show 1 ≤ sizeLine; decide, fun a3 n3 => ?_⟩
    have z3 := same_new (o := .lst [.ref a2]) n3
    have e3 : upd H2 a3 (.lst [.ref a2]) a3 = some (.lst [.ref a2]) := upd_same
    generalize upd H2 a3 (.lst [.ref a2]) = H3 at z3 e3 ⊢
    refine ⟨Nat.zero_le _, fun a4 n4 => ?_⟩
    have z4 := same_new (o := .tup []) n4
    have e4 : upd H3 a4 (.tup []) a4 = some (.tup []) := upd_same
    generalize upd H3 a4 (.tup []) = H4 at z4 e4 ⊢
    refine ⟨by show 2 ≤ sizeLine; decide, fun a5 n5 => ?_⟩
    have z5 := same_new (o := .tup [.str "plus", .str "a"]) n5
    have e5 : upd H4 a5 (.tup [.str "plus", .str "a"]) a5 = some (.tup [.str "plus", .str "a"]) := upd_same
    generalize upd H4 a5 (.tup [.str "plus", .str "a"]) = H5 at z5 e5 ⊢
    refine fun a6 n6 => ?_
    have z6 := same_new (o := .dK []) n6
    have e6 : upd H5 a6 (.dK []) a6 = some (.dK []) := upd_same
    generalize upd H5 a6 (.dK []) = H6 at z6 e6 ⊢
    refine fun a7 n7 => ?_
    have z7 := same_new (o := .dK []) n7
    have e7 : upd H6 a7 (.dK []) a7 = some (.dK []) := upd_same
    generalize upd H6 a7 (.dK []) = H7 at z7 e7 ⊢
    refine ⟨Nat.zero_le _, fun a8 n8 => ?_⟩
    have z8 := same_new (o := .tup []) n8
    have e8 : upd H7 a8 (.tup []) a8 = some (.tup []) := upd_same
    generalize upd H7 a8 (.tup []) = H8 at z8 e8 ⊢
    have e78 : H8 a7 = some (.dK []) := z8 _ _ e7
    refine ⟨e78, [(Sum.inr "a", .ref a8)], rfl, by show 1 ≤ 15; decide, ?_⟩
    have sv : ∀ b o, H8 b = some o → b ≠ a7 → (upd H8 a7 (.dK (mergeK [] [(Sum.inr "a", .ref a8)]))) b = some o := fun b o z h => by rw [upd_ne h]; exact z
    have e9 : (upd H8 a7 (.dK (mergeK [] [(Sum.inr "a", .ref a8)]))) a7 = some (.dK [(Sum.inr "a", .ref a8)]) := upd_same
    generalize upd H8 a7 (.dK (mergeK [] [(Sum.inr "a", .ref a8)])) = H9 at sv e9 ⊢
    refine ⟨Nat.zero_le _, fun a10 n10 => ?_⟩
    have z10 := same_new (o := .lst []) n10
    have e10 : upd H9 a10 (.lst []) a10 = some (.lst []) := upd_same
    generalize upd H9 a10 (.lst []) = H10 at z10 e10 ⊢
    refine ⟨by show 1 ≤ sizeLine; decide, fun a11 n11 => ?_⟩
    have z11 := same_new (o := .lst [.ref a10]) n11
    have e11 : upd H10 a11 (.lst [.ref a10]) a11 = some (.lst [.ref a10]) := upd_same
    generalize upd H10 a11 (.lst [.ref a10]) = H11 at z11 e11 ⊢
    refine ⟨by show 14 ≤ sizeLine; decide, fun a12 n12 => ?_⟩
    have z12 := same_new (o := .lst [.non, .bl false, .int 3, (fun i => V.int (-i)) (10 ^ Int.toNat 50), .str "", .str "sum", .str "a b", .ref a1, .ref a3, .ref a4, .ref a5, .ref a6, .ref a7, .ref a11]) n12
    have e12 : upd H11 a12 (.lst [.non, .bl false, .int 3, (fun i => V.int (-i)) (10 ^ Int.toNat 50), .str "", .str "sum", .str "a b", .ref a1, .ref a3, .ref a4, .ref a5, .ref a6, .ref a7, .ref a11]) a12 = some (.lst [.non, .bl false, .int 3, (fun i => V.int (-i)) (10 ^ Int.toNat 50), .str "", .str "sum", .str "a b", .ref a1, .ref a3, .ref a4, .ref a5, .ref a6, .ref a7, .ref a11]) := upd_same
    generalize upd H11 a12 (.lst [.non, .bl false, .int 3, (fun i => V.int (-i)) (10 ^ Int.toNat 50), .str "", .str "sum", .str "a b", .ref a1, .ref a3, .ref a4, .ref a5, .ref a6, .ref a7, .ref a11]) = H12 at z12 e12 ⊢
    have y1 := z1
    have y2 := y1.trans z2
    have y3 := y2.trans z3
    have y4 := y3.trans z4
    have y5 := y4.trans z5
    have y6 := y5.trans z6
    have y7 := y6.trans z7
    have y8 := y7.trans z8
    have f7 : H a7 = none := y6.free n7
    have y9 : Same H H9 := fun b o z => sv b o (y8 b o z) (ne_of_none z f7)
    have y10 := y9.trans z10
    have y11 := y10.trans z11
    have y12 := y11.trans z12
    have t9 : Same H9 H12 := z10.trans (z11.trans z12)
    -- what stands behind the dict's making
    have up : ∀ {b o}, H8 b = some o → b ≠ a7 → H12 b = some o := fun z h => t9 _ _ (sv _ _ z h)
    have g1 : H8 a1 = some (.lst []) := (z2.trans (z3.trans (z4.trans (z5.trans (z6.trans (z7.trans z8)))))) _ _ e1
    have g2 : H8 a2 = some (.tup [.str "add", .int 1]) := (z3.trans (z4.trans (z5.trans (z6.trans (z7.trans z8))))) _ _ e2
    have g3 : H8 a3 = some (.lst [.ref a2]) := (z4.trans (z5.trans (z6.trans (z7.trans z8)))) _ _ e3
    have g4 : H8 a4 = some (.tup []) := (z5.trans (z6.trans (z7.trans z8))) _ _ e4
    have g5 : H8 a5 = some (.tup [.str "plus", .str "a"]) := (z6.trans (z7.trans z8)) _ _ e5
    have g6 : H7 a6 = some (.dK []) := z7 _ _ e6
    have h67 : a6 ≠ a7 := ne_of_none e6 n7
    have h87 : a8 ≠ a7 := (ne_of_none e7 n8).symm
    have D12 : Drw H12 d l c := D.same y12
    obtain ⟨⟨r0, t0, hd0⟩, ⟨ls0, hl0⟩, _, _⟩ := id D
    have fr12 : H a12 = none := y11.free n12
    refine ⟨_, rfl, _, rfl, d, l, c, a12, _, rfl, D12, e12, (ne_of_none hl0 fr12).symm, by simp, by simp, fun k x H' hx D' B' => ?_⟩
    have tt : ∀ {a o}, H12 a = some o → H a = none → (H' a = some o ∧ H a = none) := fun {a o} z f => ⟨B' _ _ z (ne_of_none hd0 f).symm (ne_of_none hl0 f).symm, f⟩
    have B : But d l H H' := fun b o z h1 h2 => B' _ _ (y12 _ _ z) h1 h2
    have ne7 : ∀ {b o}, H6 b = some o → b ≠ a7 := fun z => ne_of_none z n7
    have w1 := tt (up g1 (ne7 ((z2.trans (z3.trans (z4.trans (z5.trans z6)))) _ _ e1))) n1
    have w2 := tt (up g2 (ne7 ((z3.trans (z4.trans (z5.trans z6))) _ _ e2))) (y1.free n2)
    have w3 := tt (up g3 (ne7 ((z4.trans (z5.trans z6)) _ _ e3))) (y2.free n3)
    have w4 := tt (up g4 (ne7 ((z5.trans z6) _ _ e4))) (y3.free n4)
    have w5 := tt (up g5 (ne7 (z6 _ _ e5))) (y4.free n5)
    have w6 := tt (up (z8 _ _ g6) h67) (y5.free n6)
    have w7 := tt (t9 _ _ e9) f7
    have w8 := tt (up e8 h87) (y7.free n8)
    have w10 := tt ((z11.trans z12) _ _ e10) (y9.free n10)
    have w11 := tt (z12 _ _ e11) (y10.free n11)
    rcases k with _ | _ | _ | _ | _ | _ | _ | _ | _ | _ | _ | _ | _ | _ | k
    · obtain rfl := Option.some.inj hx; exact q _ _ H' .non D' B
    · obtain rfl := Option.some.inj hx; exact q _ _ H' .no D' B
    · obtain rfl := Option.some.inj hx; exact q _ _ H' .num D' B
    · obtain rfl := Option.some.inj hx; exact q _ _ H' .big D' B
    · obtain rfl := Option.some.inj hx; exact q _ _ H' .s0 D' B
    · obtain rfl := Option.some.inj hx; exact q _ _ H' .s1 D' B
    · obtain rfl := Option.some.inj hx; exact q _ _ H' .s2 D' B
    · obtain rfl := Option.some.inj hx; exact q _ _ H' (.l0 w1) D' B
    · obtain rfl := Option.some.inj hx; exact q _ _ H' (.l1 w3 w2) D' B
    · obtain rfl := Option.some.inj hx; exact q _ _ H' (.t0 w4) D' B
    · obtain rfl := Option.some.inj hx; exact q _ _ H' (.t2 w5) D' B
    · obtain rfl := Option.some.inj hx; exact q _ _ H' (.d0 w6) D' B
    · obtain rfl := Option.some.inj hx; exact q _ _ H' (.d1 w7 w8) D' B
    · obtain rfl := Option.some.inj hx; exact q _ _ H' (.ll w11 w10) D' B
    · simp at hx
end
end Kn
set_option maxHeartbeats 8000000
namespace Kn
open PySem PySem.Spec PyProof.Rows L2 Err
theorem dp_bls {K : PySem.W.Frag} {H : Hp} (b : Nat → Bool) : ∀ l : List Nat, DpAll K H (l.map fun j => V.bl (b j)) (l.map fun j => PyData.bool (b j))
  | [] => .nil
  | j :: l => .cons (.bl _) (dp_bls b l)
theorem lay_bls (b : Nat → Bool) : ∀ l : List Nat, PyData.canLayAll0 (l.map fun j => PyData.bool (b j)) = true
  | [] => rfl
  | j :: l => lay_bls b l
theorem deep_bls (b : Nat → Bool) : ∀ l : List Nat, PyData.depthAll (l.map fun j => PyData.bool (b j)) = 0
  | [] => rfl
  | j :: l => by
    show max 0 (PyData.depthAll (l.map fun j => PyData.bool (b j))) = 0
    rw [deep_bls b l]
    rfl
theorem shaped_bls (b : Nat → Bool) (l : List Nat) : SeqAt.shaped (.list (l.map fun j => PyData.bool (b j))) = true := by
  refine Bool.and_eq_true_iff.mpr ⟨lay_bls b l, decide_eq_true ?_⟩
  show PyData.depthAll (l.map fun j => PyData.bool (b j)) + 1 ≤ 64
  rw [deep_bls b l]
  decide
theorem eqv_bls (b : Nat → Bool) (l : List Nat) : PyData.eqv (.list (l.map fun j => PyData.bool (b j))) (.list (l.map fun j => PyData.bool (b j))) = true :=
  PySem.SeqAt.eqv_refl _ (lay_bls b l)
theorem sixty (f : Nat → V) : ((List.range 30).map fun j => f (0 + j)) ++ ((List.range 30).map fun j => f (30 + j)) = (List.range 60).map f := by
  rfl
theorem paired_at {α β : Type} {R : α → β → Prop} : ∀ {xs : List α} {us : List β} {i : Nat} {u : β}, Paired R xs us → us[i]? = some u → ∃ x, xs[i]? = some x ∧ R x u
  | _, _, _, _, .nil, h => by simp at h
  | _, _, 0, _, .cons r _, h => ⟨_, rfl, (Option.some.inj h) ▸ r⟩
  | _, _, i + 1, _, .cons _ t, h => by
    obtain ⟨x, h1, h2⟩ := paired_at (i := i) t (by simpa using h)
    exact ⟨x, by simpa using h1, h2⟩
/-- the error of the i-th pair -/
def Fst (c : Nat → Addr) (H : Hp) (v : V) (ts : List V) (i : Nat) : Prop := ∃ t e d, ts[i]? = some (.ref t) ∧ H t = some (.tup [.ref e, v]) ∧ H e = some (exo e (c (40 + i)) (some d)) ∧ H d = some (exd d [(AT.getD i "", v)])
theorem fst_of {c : Nat → Addr} {H : Hp} {v : V} {ts : List V} (h : Paired (Pr H v) ts ((List.range 20).map fun i => (c (40 + i), AT.getD i ""))) (i : Nat) (hi : i < 20) : Fst c H v ts i := by
  have e : ((List.range 20).map fun i => (c (40 + i), AT.getD i ""))[i]? = some (c (40 + i), AT.getD i "") := by
    rw [List.getElem?_map, List.getElem?_range hi]
    rfl
  obtain ⟨x, h1, t, e', d, rfl, h2, h3, h4⟩ := paired_at h e
  exact ⟨t, e', d, h1, h2, h3, h4⟩
theorem Fst.same {c : Nat → Addr} {H H' : Hp} {v : V} {ts : List V} {i : Nat} (h : Fst c H v ts i) (s : Same H H') : Fst c H' v ts i := by
  obtain ⟨t, e, d, h0, h1, h2, h3⟩ := h
  exact ⟨t, e, d, h0, s _ _ h1, s _ _ h2, s _ _ h3⟩
/-- the i-th of the errors with an attribute -/
def Fil (c : Nat → Addr) (H : Hp) (v : V) (es : List V) (i : Nat) : Prop := ∃ e d, es[i]? = some (.ref e) ∧ H e = some (exo e (c (40 + i)) (some d)) ∧ H d = some (exd d [(AT.getD i "", v)])
theorem Fil.same {c : Nat → Addr} {H H' : Hp} {v : V} {es : List V} {i : Nat} (h : Fil c H v es i) (s : Same H H') : Fil c H' v es i := by
  obtain ⟨e, d, h0, h1, h2⟩ := h
  exact ⟨e, d, h0, s _ _ h1, s _ _ h2⟩
/-- all sixty errors, in the order of their classes -/
theorem all_at {c : Nat → Addr} {H : Hp} {v : V} {bs es : List V} (hb : Paired (Er H) bs ((List.range 40).map c)) (he : ∀ j, j < 20 → Fil c H v es j) (hl : es.length = 20) (i : Nat) (hi : i < 60) :
    ∃ a, (bs ++ es)[i]? = some (.ref a) ∧ ExAt H a (c i) := by
  have lb : bs.length = 40 := by
    rw [hb.length]
    simp
  by_cases h : i < 40
  · have e : ((List.range 40).map c)[i]? = some (c i) := by
      rw [List.getElem?_map, List.getElem?_range h]
      rfl
    obtain ⟨x, h1, a, rfl, h2⟩ := paired_at hb e
    exact ⟨a, by rw [List.getElem?_append_left (by omega)]; exact h1, .inl h2⟩
  · obtain ⟨e, d, h0, h1, h2⟩ := he (i - 40) (by omega)
    rw [show 40 + (i - 40) = i by omega] at h1
    exact ⟨e, by rw [List.getElem?_append_right (by omega), lb]; exact h0, .inr ⟨d, _, h1, h2⟩⟩
theorem AnyV.ok {K : PySem.W.Frag} {H : Hp} {v : V} {d : PyData} (h : AnyV (fun a o => H a = some o) v d) : Rp.Tx K H v d ∧ d.showable = true ∧ d.depth ≤ 60 ∧ d.shown.length ≤ sizeLine := by
  have f := h.fit
  unfold fitB at f
  simp only [Bool.and_eq_true, decide_eq_true_eq] at f
  obtain ⟨⟨⟨⟨⟨f1, f2⟩, f3⟩, f4⟩, f5⟩, f6⟩ := f
  exact ⟨h.tx, f1, by omega, f3⟩
theorem AnyV.ok20 {K : PySem.W.Frag} {H : Hp} {v : V} {d : PyData} {l : Addr} (h : AnyV (fun a o => H a = some o) v d) (hm : ∃ o, K.lookup sysModules = some o) (hl : H l = some (.lst (List.replicate 20 v))) :
    Rp.Tx K H (.ref l) (.list (List.replicate 20 d)) ∧ (PyData.list (List.replicate 20 d)).showable = true ∧ (PyData.list (List.replicate 20 d)).depth ≤ 60 ∧ (PyData.list (List.replicate 20 d)).shown.length ≤ sizeLine := by
  have f := h.fit
  unfold fitB at f
  simp only [Bool.and_eq_true, decide_eq_true_eq] at f
  obtain ⟨⟨⟨⟨⟨f1, f2⟩, f3⟩, f4⟩, f5⟩, f6⟩ := f
  exact ⟨Rp.Tx.rep (n := 19) hl h.tx hm, f4, by omega, f6⟩
end Kn
set_option maxHeartbeats 8000000
namespace Kn
open PySem PySem.Spec PyProof.Rows L2 Err Gd L2
abbrev sLaw : Stmt := topS 73
abbrev NL : List Str := ["_law_script", "_law_draw", "_law_words", "_law_each", "_law_pairs_here", "_law_filled_here", "_law_errors", "_law_spot", "_law_error", "_law_plain", "_law_pair", "_law_k"]
theorem scW : FnScope NL ["_law_script"] (defScope sLaw) := ⟨rfl, rfl, rfl, by decide +kernel, rfl, by decide +kernel, by decide +kernel⟩
def spLaw (K : PySem.W.Frag) : Sp := fun vs H Q _ => ∃ (a : Addr) (ns : List Int), vs = [.ref a] ∧ SqL K H a (ns.map V.int) ∧ ns.length ≤ 63 ∧ ∀ H', Q (.bl true) H'
/-- a def of the law, with its promise -/
structure Def (P : Program) (w : World) (K : PySem.W.Frag) (mg : Str → Option Value) (base : Heap) (k : Nat) (x : Str) (ps : List Str) (sp : Sp) : Prop where
  ex : ∃ (f : Addr) (fd : FuncData), FnOk P w K mg base CX0 k f fd ps sp ∧ PySem.W.keepIn K (.ref f) = true ∧ Binds K fd ps [] ∧ mg x = some (.ref f)
section
variable {P : Program} {w : World} {K : PySem.W.Frag} {mg : Str → Option Value} {base : Heap}
theorem ok_law {f : Addr} {fd : FuncData} (F : Fun K "law" "law" sLaw f fd) (T : Top P K mg) (hm : ∃ o, K.lookup sysModules = some o)
    (dB : Def P w K mg base 1 "_law_begun" ["_law_script"] (spBegun K)) (dP : Def P w K mg base 3 "_law_pick" ["_law_draw", "_law_some"] spPick) (dA : Def P w K mg base 4 "_law_any" ["_law_draw"] spAny)
    (dFi : Def P w K mg base 2 "_law_filled" ["_law_each"] (spFilled T.c)) (dBa : Def P w K mg base 1 "_law_bare" ["_law_words"] (spBare T.c)) (dFo : Def P w K mg base 1 "_law_former" ["_law_error"] (spIs T.c K 0))
    (dLa : Def P w K mg base 1 "_law_latter" ["_law_error"] (spIs T.c K 30)) (dK : Def P w K mg base 1 "_law_kept" ["_law_some"] (spKept K))
    (men : mg "enumerate" = none) (mra : mg "range" = none) (mre : mg "repr" = none) (mve : mg "ValueError" = none) : FnOkG P w K mg base CX0 5 f fd ["_law_script"] (spLaw K) := by
  have S := scW
  obtain ⟨fB, fdB, GB, kB, bB, gB⟩ := dB.ex
  obtain ⟨fP, fdP, GP, kP, bP, gP⟩ := dP.ex
  obtain ⟨fA, fdA, GA, kA, bA, gA⟩ := dA.ex
  obtain ⟨fFi, fdFi, GFi, kFi, bFi, gFi⟩ := dFi.ex
  obtain ⟨fBa, fdBa, GBa, kBa, bBa, gBa⟩ := dBa.ex
  obtain ⟨fFo, fdFo, GFo, kFo, bFo, gFo⟩ := dFo.ex
  obtain ⟨fLa, fdLa, GLa, kLa, bLa, gLa⟩ := dLa.ex
  obtain ⟨fK, fdK, GK, kK, bK, gK⟩ := dK.ex
  refine okG F S (fun vs H Q E h => ?_) (fun cdv A outer s H vs Q E hr hg h => ?_)
  · obtain ⟨a, ns, rfl, _⟩ := h
    rfl
  · obtain ⟨a, ns, rfl, hS, hn, q⟩ := h
    have r1 : Room 1 _ := hr.mono (by decide)
    have r2 : Room 2 _ := hr.mono (by decide)
    have r3 : Room 3 _ := hr.mono (by decide)
    refine ⟨_, pss_cons (ps_set (i := 1) S.nd rfl (.inl rfl) (pe_call GB r1 (by rfl) gB kB bB .nil pass0 (pa_cons (pv 0) pa_nil)))
      (pss_cons (ps_asg (pe_tup (pa_cons (pe_call GP r3 (by rfl) gP kP bP .nil pass0 (pa_cons (pv 1) (pa_cons (pe_lst (pa_cons pe_str (pa_cons pe_str (pa_cons pe_str pa_nil)))) pa_nil))) (pa_cons (pe_call GA hr (by rfl) gA kA bA .nil pass0 (pa_cons (pv 1) pa_nil)) pa_nil)))
        (pg_tup rfl (pgs_cons (pg_name (i := 2) S.nd rfl (.inl rfl)) (pgs_cons (pg_name (i := 3) S.nd rfl (.inr rfl)) pgs_nil))))
      (pss_cons (ps_set (i := 4) S.nd rfl (.inl rfl) (pe_call GFi r2 (by rfl) gFi kFi bFi .nil pass0 (pa_cons (pv 3) pa_nil)))
      (pss_cons (ps_setLc (i := 5) (own := [("_law_pair", 10)]) (g := gName 10) rfl S.nd rfl rfl (sw_true rfl rfl rfl (by decide +kernel)) (pi_list (pv 4)) (blkOk_by (N := NL) (sc := defScope sLaw) (by decide +kernel)) (fun _ _ _ _ _ => pg_name (i := 10) S.nd rfl (.inl rfl)) (fun _ _ _ _ _ => pts_nil)
        (fun _ _ _ _ _ => pe_ix (show IxR _ (rIxT K) from ix_tup) (pv 10) pe_int (fun _ _ => rfl)))
      (pss_cons (ps_set (i := 6) S.nd rfl (.inl rfl) (pe_op op_cat (pe_call GBa r1 (by rfl) gBa kBa bBa .nil pass0 (pa_cons (pv 2) pa_nil)) (pv 5)))
      (pss_cons (ps_for PassesOwn.never rfl (pi_enum (by rfl) men (pa_cons (pv 6) pa_nil)) (pg_tup rfl (pgs_cons (pg_name (i := 7) S.nd rfl (.inr rfl)) (pgs_cons (pg_name (i := 8) S.nd rfl (.inl rfl)) pgs_nil)))
        (pss_cons (ps_if (pt_cmpR (op_neD hr.units) (pe_op op_cat (pe_call GFo r1 (by rfl) gFo kFo bFo .nil pass0 (pa_cons (pv 8) pa_nil)) (pe_call GLa r1 (by rfl) gLa kLa bLa .nil pass0 (pa_cons (pv 8) pa_nil)))
            (pe_lc (own := [("_law_k", 11)]) (g := gName 11) rfl S.nd (pi_range1 (by rfl) mra (pa_cons pe_int pa_nil)) (blkOk_by (N := NL) (sc := defScope sLaw) (by decide +kernel)) (fun _ _ _ _ _ => pg_name (i := 11) S.nd rfl (.inl rfl)) (fun _ _ _ _ _ => pts_nil)
              (fun _ _ _ _ _ => pe_cmpR op_eq (pv 11) (pv 7) (nomark _))) (nomark _)) (pss_one (ps_ret pe_bl)) pss_nil)
        (pss_one (ps_if (PW.pt (pw_or (pt_not (pt_val (pe_callB call_isx (by rfl) T.isn PyProof.Rows.boot_isinstance (pa_cons (pv 8) (pa_cons (pe_glob (v := .ref T.S) (by rfl) T.mgS rfl) pa_nil)))))
            (pw_or1 (pt_not (pt_val (pe_callB call_isx (by rfl) T.isn PyProof.Rows.boot_isinstance (pa_cons (pv 8) (pa_cons (pe_bltn (v := .ty "ValueError") (by rfl) mve (by decide +kernel) rfl) pa_nil)))))))) (pss_one (ps_ret pe_bl)) pss_nil))))
      (pss_cons (ps_if (PW.pt (pw_or (pt_cmpR op_ne (pe_callB (Rp.call_rp hg hr.units) (by rfl) mre PyProof.Rows.boot_repr (pa_cons (pe_call GK r1 (by rfl) gK kK bK .nil pass0 (pa_cons (pv 5) pa_nil)) pa_nil))
              (pe_callB (Rp.call_rp hg hr.units) (by rfl) mre PyProof.Rows.boot_repr (pa_cons (pe_op op_rep (pe_lst (pa_cons (pv 3) pa_nil)) pe_int) pa_nil)) (nomark _))
            (pw_or1 (pt_cmpR (op_neD hr.units) (pe_lc (own := [("_law_pair", 10)]) (g := gName 10) rfl S.nd (pi_list (pv 4)) (blkOk_by (N := NL) (sc := defScope sLaw) (by decide +kernel)) (fun _ _ _ _ _ => pg_name (i := 10) S.nd rfl (.inl rfl))
                (fun _ _ _ _ _ => pts_one (pt_cmpR op_ne (pe_callB (show CallR _ (.builtin "repr") (Rp.rRp K) from Rp.call_rp hg hr.units) (by rfl) mre PyProof.Rows.boot_repr (pa_cons (pe_ix (show IxR _ (rIxT K) from ix_tup) (pv 10) pe_int (fun _ _ => rfl)) pa_nil)) (pe_callB (show CallR _ (.builtin "repr") (Rp.rRp K) from Rp.call_rp hg hr.units) (by rfl) mre PyProof.Rows.boot_repr (pa_cons (pv 3) pa_nil)) (nomark _)))
                (fun _ _ _ _ _ => pe_int)) (pe_lst pa_nil) (nomark _))))) (pss_one (ps_ret pe_bl)) pss_nil)
      (pss_cons (ps_set (i := 9) S.nd rfl (.inl rfl) (pe_exc1 PySem.F.excBase_ValueError T.exS T.mgS T.kpS (by rfl) pe_str))
      (pss_one (ps_ret (pe_and (pe_cmpR op_notIn_seq pe_bl (pe_op op_cat (pe_call GFo r1 (by rfl) gFo kFo bFo .nil pass0 (pa_cons (pv 9) pa_nil)) (pe_call GLa r1 (by rfl) gLa kLa bLa .nil pass0 (pa_cons (pv 9) pa_nil))) (by with_unfolding_all rfl))
          (pe_one (pe_callB call_isx (by rfl) T.isn PyProof.Rows.boot_isinstance (pa_cons (pv 9) (pa_cons (pe_bltn (v := .ty "ValueError") (by rfl) mve (by decide +kernel) rfl) pa_nil)))))))))))))), ?_⟩
    -- _law_draw
    refine ⟨.ref a, rfl, a, ns, rfl, hS, hn, fun d l c H1 s1 nd nl nc D1 => ?_⟩
    -- the words, the value
    refine ⟨_, rfl, by show 3 ≤ sizeLine; decide, fun p np => ?_⟩
    have Dp1 := D1.new (o := .lst [.str "a", .str "", .str "no such thing"]) np
    have ep : (upd H1 p (.lst [.str "a", .str "", .str "no such thing"])) p = some (.lst [.str "a", .str "", .str "no such thing"]) := upd_same
    have pl : p ≠ l := by
      obtain ⟨ls, hl⟩ := D1.ll
      exact (ne_of_none hl np).symm
    refine ⟨d, l, c, p, _, rfl, Dp1, ep, pl, by simp, by simp, fun k x H2 hx D2 B2 => ?_⟩
    refine ⟨_, rfl, d, l, c, rfl, D2, fun v dt H3 av D3 B3 => ?_⟩
    refine ⟨by show 2 ≤ sizeLine; decide, fun t nt => ?_⟩
    have av4 := av.mono fun a o h => same_new (o := .tup [x, v]) nt _ _ h.1
    have et : (upd H3 t (.tup [x, v])) t = some (.tup [x, v]) := upd_same
    generalize upd H3 t (.tup [x, v]) = H4 at av4 et ⊢
    refine ⟨t, [x, v], rfl, SqT.of et, rfl, x, [v], rfl, v, [], rfl, rfl, ?_⟩
    -- the pairs
    refine ⟨_, rfl, v, rfl, fun lp H5 ts s5 _ e5 pr => ?_⟩
    have av5 := av4.mono fun a o h => s5 _ _ h
    have lt : ts.length = 20 := by
      rw [pr.length]
      simp
    have ft := fst_of pr
    -- the first of each
    refine ⟨_, rfl, lp, rfl, ⟨_, SqL.of e5⟩, fun D nD => lc_list (xs := ts) (fun i H6 => Same H5 H6 ∧ ∃ acc : List V, H6 D = some (.lst acc) ∧ acc.length = i ∧ ∀ j, j < i → Fil T.c H5 v acc j)
      ⟨same_new nD, [], upd_same, rfl, fun j hj => absurd hj (Nat.not_lt_zero j)⟩ (fun _ _ _ h => SqL.of (h.1 _ _ e5)) ?_ ?_⟩
    · rintro i y H6 hy ⟨s6, acc, ea, la, fa⟩
      have hi : i < 20 := by
        have z := (List.getElem?_eq_some_iff.mp hy).1
        omega
      obtain ⟨t1, e1, d1, h0, h1, h2, h3⟩ := ft i hi
      obtain rfl : V.ref t1 = y := Option.some.inj (h0.symm.trans hy)
      refine ⟨rfl, ?_⟩
      dsimp only [tYes]
      rw [if_pos rfl]
      refine ⟨_, rfl, t1, [.ref e1, v], 0, .ref e1, rfl, rfl, SqT.of (s6 _ _ h1), atI_nat (j := 0) rfl, acc, ea, small1000 (by omega), same_own nD s6, acc ++ [.ref e1], upd_same, by rw [List.length_append, la]; rfl, fun j hj => ?_⟩
      by_cases hji : j < i
      · obtain ⟨e, dd, k0, k1, k2⟩ := fa j hji
        exact ⟨e, dd, by rw [List.getElem?_append_left (by omega)]; exact k0, k1, k2⟩
      · obtain rfl : j = i := by omega
        exact ⟨e1, d1, by rw [List.getElem?_append_right (by omega), la, Nat.sub_self]; rfl, h2, h3⟩
    · rintro H6 ⟨s6, es, eD, le, fi⟩
      rw [lt] at le fi
      -- the errors
      refine ⟨_, rfl, x, rfl, fun lb H7 bs s7 nb e7 pb => ⟨_, rfl, lb, D, bs, es, rfl, rfl, e7, s7 _ _ eD, ?_, fun ll nll => ?_⟩⟩
      · have z1 : bs.length = 40 := by
          rw [pb.length]
          simp
        have z2 : (60 : Nat) ≤ sizeLine := by decide
        omega
      have s8 := same_new (o := .lst (bs ++ es)) nll
      have e8 : (upd H7 ll (.lst (bs ++ es))) ll = some (.lst (bs ++ es)) := upd_same
      generalize upd H7 ll (.lst (bs ++ es)) = H8 at s8 e8 ⊢
      have s58 : Same H5 H8 := s6.trans (s7.trans s8)
      have fi8 : ∀ j, j < 20 → Fil T.c H8 v es j := fun j hj => (fi j hj).same s58
      have at8 := all_at (L2.Paired.mapP pb (Er.same s8)) fi8 le
      have len60 : (bs ++ es).length = 60 := by
        rw [List.length_append, pb.length, le]
        simp
      have av8 := av5.mono fun a o h => s58 _ _ h
      have ft8 := fun i hi => (ft i hi).same s58
      have ep8 := s58 _ _ e5
      have eD8 := (s7.trans s8) _ _ eD
      -- for each error
      refine ⟨_, rfl, ll, _, rfl, SqL.of e8, for_it walk_enum (fun i σ H9 => ∃ y7 y8, σ = [some (.ref a), some (.ref d), some x, some v, some (.ref lp), some (.ref D), some (.ref ll), y7, y8, none, none, none] ∧ Same H8 H9)
        ⟨none, none, rfl, fun _ _ z => z⟩ (fun i σ H9 _ ⟨_, _, _, s9⟩ => SqL.of (s9 _ _ e8)) ?_ ?_⟩
      · rintro i xx σ H9 H9' hi ⟨y7, y8, rfl, s9⟩ ⟨tp, xi, ye, rfl, nT, rfl, h1, h2⟩
        rw [len60] at hi
        obtain ⟨ae, ha, hx⟩ := at8 i hi
        obtain rfl : V.int (i : Nat) = xi := Option.some.inj h1
        obtain rfl : V.ref ae = ye := Option.some.inj (ha.symm.trans h2)
        have sT := same_new (o := .tup [.int (i : Nat), .ref ae]) nT
        have eT : (upd H9 tp (.tup [.int (i : Nat), .ref ae])) tp = some (.tup [.int (i : Nat), .ref ae]) := upd_same
        generalize upd H9 tp (.tup [.int (i : Nat), .ref ae]) = G0 at sT eT ⊢
        have s0 := s9.trans sT
        refine ⟨tp, [_, _], rfl, SqT.of eT, rfl, _, [_], rfl, _, [], rfl, rfl, ?_⟩
        -- former(error) + latter(error)
        refine ⟨_, rfl, ae, T.c i, fun j => decide (j = i), rfl, hx.same s0, T.is i hi, fun j hj => T.kit i j hi hj, fun l1 G1 z1 m1 f1 => ?_⟩
        refine ⟨_, rfl, ae, T.c i, fun j => decide (j = i), rfl, (hx.same s0).same z1, T.is i hi, fun j hj => T.kit i j hi hj, fun l2 G2 z2 m2 f2 => ?_⟩
        refine ⟨l1, l2, _, _, rfl, rfl, z2 _ _ f1, f2, by simp; decide, fun l3 m3 => ?_⟩
        have z3 := same_new (o := .lst (((List.range 30).map fun j => V.bl (decide (0 + j = i))) ++ ((List.range 30).map fun j => V.bl (decide (30 + j = i))))) m3
        have f3 : (upd G2 l3 (.lst (((List.range 30).map fun j => V.bl (decide (0 + j = i))) ++ ((List.range 30).map fun j => V.bl (decide (30 + j = i)))))) l3 = some (.lst ((List.range 60).map fun j => V.bl (decide (j = i)))) := upd_same
        generalize upd G2 l3 (.lst (((List.range 30).map fun j => V.bl (decide (0 + j = i))) ++ ((List.range 30).map fun j => V.bl (decide (30 + j = i))))) = G3 at z3 f3 ⊢
        have sG := s0.trans (z1.trans (z2.trans z3))
        -- the list of comparisons
        refine ⟨60, rfl, by decide, by decide, fun D2 nD2 => lc_it walk_range (fun k G => Same G3 G ∧ G D2 = some (.lst ((List.range k).map fun j => V.bl (decide (j = i))))) ⟨same_new nD2, upd_same⟩ (fun _ _ _ _ => trivial) ?_ ?_⟩
        · rintro k xk G G' hk ⟨w1, w2⟩ ⟨rfl, rfl⟩
          refine ⟨rfl, ?_⟩
          dsimp only [tYes]
          rw [if_pos rfl]
          have hk' : k < 60 := hk
          refine ⟨_, rfl, _, rfl, rfl, _, w2, ?_, same_own nD2 w1, ?_⟩
          · rw [List.length_map, List.length_range]
            exact small1000 (by omega)
          · have e : decide (V.int (0 + (k : Int)) = V.int (i : Int)) = decide (k = i) := by
              by_cases h : k = i
              · subst h
                rw [decide_eq_true rfl]
                exact decide_eq_true (by rw [Int.zero_add])
              · rw [decide_eq_false h]
                refine decide_eq_false fun z => h ?_
                have z' := V.int.inj z
                omega
            rw [e, upd_same, List.range_succ, List.map_append]
            rfl
        · rintro G ⟨w1, w2⟩
          refine ⟨.list ((List.range 60).map fun j => PyData.bool (decide (j = i))), .list ((List.range 60).map fun j => PyData.bool (decide (j = i))), .lst (SqL.of (w1 _ _ f3)) (dp_bls _ _), .lst (SqL.of w2) (dp_bls _ _), shaped_bls _ _, shaped_bls _ _, _, rfl, ?_⟩
          rw [eqv_bls]
          refine iteF ?_
          have sH := sG.trans w1
          have hxG := hx.same sH
          refine ⟨_, rfl, ae, T.c i, .ref T.S, .ref T.S, true, rfl, hxG, T.is i hi, .own T.S, T.kitS i hi, true, rfl, ?_⟩
          refine iteF ?_
          refine ⟨_, rfl, ae, T.c i, .ty "ValueError", .type "ValueError", true, rfl, hxG, T.is i hi, .ty _, T.kitV i hi, true, rfl, ?_⟩
          refine iteF ?_
          exact ⟨_, _, rfl, sH⟩
      · rintro σ H9 ⟨y7, y8, rfl, s9⟩
        -- repr(kept(filled)) and repr([each] * 20)
        refine ⟨_, rfl, D, es, v, rfl, SqL.of (s9 _ _ eD8), fun i hi => ?_, fun lk G1 z1 m1 f1 => ?_⟩
        · obtain ⟨e, dd, h0, h1, h2⟩ := fi8 i hi
          exact ⟨e, T.c (40 + i), dd, h0, s9 _ _ h1, s9 _ _ h2, T.is (40 + i) (by omega), T.no i hi⟩
        have avG := av8.mono fun a o h => z1 _ _ (s9 _ _ h)
        obtain ⟨tx, sh, dp, ln⟩ := avG.ok20 (K := K) hm f1
        refine ⟨.ref lk, _, rfl, tx, sh, dp, ln, ?_⟩
        refine ⟨_, rfl, by show 1 ≤ sizeLine; decide, fun u nu => ⟨u, 20, [v], rfl, rfl, upd_same, by decide, by decide, by show 1 * 20 ≤ sizeLine; decide, fun r nr => ?_⟩⟩
        have z2 := (same_new (o := .lst [v]) nu).trans (same_new (o := .lst (List.replicate (Int.toNat 20) [v]).flatten) nr)
        have f2 : (upd (upd G1 u (.lst [v])) r (.lst (List.replicate (Int.toNat 20) [v]).flatten)) r = some (.lst (List.replicate 20 v)) := upd_same
        generalize upd (upd G1 u (.lst [v])) r (.lst (List.replicate (Int.toNat 20) [v]).flatten) = G2 at z2 f2 ⊢
        have av2 := avG.mono fun a o h => z2 _ _ h
        obtain ⟨tx2, sh2, dp2, ln2⟩ := av2.ok20 (K := K) hm f2
        refine ⟨.ref r, _, rfl, tx2, sh2, dp2, ln2, rfl, _, rfl, ?_⟩
        refine iteNS rfl ?_
        have s82 : Same H8 G2 := s9.trans (z1.trans z2)
        refine ⟨_, rfl, lp, rfl, ⟨_, SqL.of (s82 _ _ ep8)⟩, fun D3 nD3 => lc_list (xs := ts) (fun i G => Same G2 G ∧ G D3 = some (.lst [])) ⟨same_new nD3, upd_same⟩ (fun _ _ _ h => SqL.of (h.1 _ _ (s82 _ _ ep8))) ?_ ?_⟩
        · rintro i y G hy ⟨w1, w2⟩
          have hi : i < 20 := by
            have z := (List.getElem?_eq_some_iff.mp hy).1
            omega
          obtain ⟨t1, e1, d1, h0, h1, h2, h3⟩ := ft8 i hi
          obtain rfl : V.ref t1 = y := Option.some.inj (h0.symm.trans hy)
          obtain ⟨tx', sh', dp', ln'⟩ := (av2.mono fun a o h => w1 _ _ h).ok (K := K)
          refine ⟨rfl, ?_⟩
          refine ⟨_, rfl, t1, [.ref e1, v], 1, v, rfl, rfl, SqT.of (w1 _ _ (s82 _ _ h1)), atI_nat (j := 1) rfl, v, dt, rfl, tx', sh', dp', ln', _, rfl, v, dt, rfl, tx', sh', dp', ln', rfl, _, rfl, ?_⟩
          exact iteNS rfl ⟨w1, w2⟩
        · rintro G ⟨w1, w2⟩
          refine ⟨Nat.zero_le _, fun u2 nu2 => ?_⟩
          refine ⟨.list [], .list [], .lst (SqL.of (same_new nu2 _ _ w2)) .nil, .lst (SqL.of upd_same) .nil, rfl, rfl, _, rfl, ?_⟩
          refine iteF ?_
          -- the plain one
          refine fun ap nap => ?_
          refine ⟨_, rfl, ap, T.S, fun _ => false, rfl, .inl upd_same, T.isS, fun j hj => T.none j hj, fun l1 G3 z1 m1 f1 => ?_⟩
          have px : ExAt G3 ap T.S := .inl (z1 _ _ upd_same)
          refine ⟨_, rfl, ap, T.S, fun _ => false, rfl, px, T.isS, fun j hj => T.none j hj, fun l2 G4 z2 m2 f2 => ?_⟩
          refine ⟨l1, l2, _, _, rfl, rfl, z2 _ _ f1, f2, by simp; decide, fun l3 m3 => ?_⟩
          refine ⟨l3, _, rfl, .inl (SqL.of upd_same), rfl, rfl, true, rfl, ?_⟩
          refine iteT ?_
          refine ⟨_, rfl, ap, T.S, .ty "ValueError", .type "ValueError", true, rfl, (px.same z2).same (same_new m3), T.isS, .ty _, T.SV, ?_⟩
          exact q _
end
end Kn
set_option maxHeartbeats 4000000
/-! What the top has written of a package's errors, told by names: the text of each, and a look at the heap. -/
namespace Hk
open PySem PySem.Spec PyProof.Rows L2 NdefX Err
def ErrD.st (d : ErrD) : Stmt := .FunctionDef "__init__" d.params d.body [] none [] d.scope none "__init__" default
abbrev plS : Sem Bool := do return (← (pure (some false) : Sem (Option Bool))).getD true
structure Text (d : ErrD) : Prop where
  ex : ∃ (msg : Str) (q1 q2 q3 q4 q5 q6 q7 q8 q9 q10 : Pos), NScope ["self", d.att, "__class__"] ["self", d.att] ["__class__"] d.scope ∧
    d.body = [.Expr (.Call (.Attribute (.Call (.Name "super" q1) [] [] q2) "__init__" q3) [.Constant (.str msg) 0 q4] [] q5) q6, .Assign [.Attribute (.Name "self" q7) d.att q8] (.Name d.att q9) q10] ∧
    (∀ env, SupEv q1 q2 q3 q4 q5 msg plS env) ∧ d.scope.names.lookup ("super" : Str) = some .globalImplicit ∧ (d.params.posonlyargs ++ d.params.args).head?.map (·.arg) = some ("self" : Str) ∧
    (d.att == ("__debug__" : Str)) = false ∧ (d.att == ("__classdict__" : Str)) = false ∧ (∀ env, swapsWith (.Name d.att q9) (some (.Attribute (.Name "self" q7) d.att q8)) q10.line env = pure false) ∧
    (∀ (cc cd : Addr) kV doc pm an ct e u, bindArgs (PySem.W.fnX "__init__" d.qual d.params d.body d.scope [("__class__", cc)] .none kV doc pm an (.ref cd) ct) ⟨[e, u], []⟩ = pure [(("self" : Str), e), (d.att, u)]) ∧
    (∀ (cc cd : Addr) kV doc pm an ct e u, bindArgs (PySem.W.fnX "__init__" d.qual d.params d.body d.scope [("__class__", cc)] .none kV doc pm an (.ref cd) ct) ⟨[e], [(d.att, u)]⟩ = pure [(("self" : Str), e), (d.att, u)])
end Hk
set_option maxHeartbeats 4000000
namespace Hk
open PySem PySem.Spec PyProof.Rows L2 NdefX Err
theorem isi_of {K : PySem.W.Frag} {C : Addr} {l : List Value} (b : basB K C = true) (m : mroB K C (.ref C :: l ++ vTail) = true) (g : genB K = true) : Isi K C := by
  unfold basB at b
  unfold genB at g
  simp only [Bool.and_eq_true, decide_eq_true_eq] at b g
  obtain ⟨b1, b2, b3, b4, b5, b6, b7⟩ := b
  obtain ⟨g1, g2, g3, g4⟩ := g
  have hm : (PySem.W.clsIn K C).map (·.mro) = some (.ref C :: l ++ vTail) := of_decide_eq_true m
  obtain ⟨cd, hc, hmr⟩ := Option.map_eq_some_iff.mp hm
  have inM : ∀ v, v ∈ vTail → PySem.W.mroIn K C v = some true := fun v hv => by
    unfold PySem.W.mroIn
    rw [hc]
    show (if cd.mro.isEmpty = true then none else some (cd.mro.contains v)) = some true
    rw [hmr]
    have e : (Value.ref C :: l ++ vTail).contains v = true := by
      rw [List.contains_iff_mem]
      exact List.mem_append_right _ hv
    rw [e]
    rfl
  exact ⟨b3, He.eqO_ok b4, He.eqO_ok b5, inM _ (by unfold vTail; simp), He.eqO_ok b6, He.eqO_ok g1, g2, inM _ (by unfold vTail; simp), b7⟩
theorem kit_ref {K : PySem.W.Frag} {C D : Addr} {l : List Addr} (m : mroB K C ((l.map Value.ref) ++ vTail) = true) (hl : l.head? = some C) (b : basB K D = true) : PySem.W.kitOne K (.ref C) (.ref D) = some (decide (D ∈ l)) := by
  have hm : (PySem.W.clsIn K C).map (·.mro) = some ((l.map Value.ref) ++ vTail) := of_decide_eq_true m
  obtain ⟨cd, hc, hmr⟩ := Option.map_eq_some_iff.mp hm
  unfold basB at b
  simp only [Bool.and_eq_true, decide_eq_true_eq] at b
  obtain ⟨b1, b2, b3, _⟩ := b
  unfold PySem.W.kitOne
  by_cases h : C = D
  · subst h
    rw [if_pos (by simp)]
    have : C ∈ l := List.mem_of_mem_head? hl
    rw [decide_eq_true this]
  · rw [if_neg (by simp [h])]
    unfold PySem.W.kitCls
    show (if ((PySem.W.clsIn K D).isSome && PySem.W.typeIn K (.ref D) == some (.type "type")) = true then PySem.W.subIn K (.ref C) (.ref D) else none) = _
    rw [b1, if_pos (by rw [b3]; simp)]
    show PySem.W.mroIn K C (.ref D) = _
    unfold PySem.W.mroIn
    rw [hc]
    show (if cd.mro.isEmpty = true then none else some (cd.mro.contains (.ref D))) = _
    rw [hmr]
    have ne : ((l.map Value.ref) ++ vTail).isEmpty = false := by
      cases l with
      | nil => cases hl
      | cons _ _ => rfl
    rw [ne, if_neg Bool.false_ne_true]
    congr 1
    by_cases hd : D ∈ l
    · rw [decide_eq_true hd, List.contains_iff_mem]
      exact List.mem_append_left _ (List.mem_map_of_mem hd)
    · rw [decide_eq_false hd]
      refine Bool.eq_false_iff.mpr fun z => ?_
      rw [List.contains_iff_mem] at z
      rcases List.mem_append.mp z with z | z
      · obtain ⟨x, hx, e⟩ := List.mem_map.mp z
        cases e
        exact hd hx
      · unfold vTail at z
        simp at z
theorem kit_VE {K : PySem.W.Frag} {C : Addr} {l : List Value} (m : mroB K C (.ref C :: l ++ vTail) = true) : PySem.W.kitOne K (.ref C) (.type "ValueError") = some true := by
  have hm : (PySem.W.clsIn K C).map (·.mro) = some (.ref C :: l ++ vTail) := of_decide_eq_true m
  obtain ⟨cd, hc, hmr⟩ := Option.map_eq_some_iff.mp hm
  unfold PySem.W.kitOne
  rw [if_neg (by simp)]
  unfold PySem.W.kitCls
  show (if PySem.W.kitMeta "ValueError" = true then PySem.W.subIn K (.ref C) (.type "ValueError") else none) = _
  rw [if_pos (by decide +kernel)]
  show PySem.W.mroIn K C (.type "ValueError") = _
  unfold PySem.W.mroIn
  rw [hc]
  show (if cd.mro.isEmpty = true then none else some (cd.mro.contains (.type "ValueError"))) = _
  rw [hmr]
  have e : (Value.ref C :: l ++ vTail).contains (.type "ValueError") = true := by
    rw [List.contains_iff_mem]
    exact List.mem_append_right _ (by unfold vTail; simp)
  rw [e]
  rfl
end Hk
set_option maxHeartbeats 4000000
/-! A look at what the top has written: errors of the package and the law's defs. -/
namespace Hk
open PySem PySem.Spec PyProof.Rows L2 NdefX Err
theorem cell_of {K : PySem.W.Frag} {cc C : Addr} (h : cellB K cc C = true) : ∃ c1 c2 c3, K.lookup cc = some ⟨c1, c2, .cell (some (.ref C)), c3⟩ := by
  unfold cellB at h
  split at h
  · rename_i c1 c2 D c3 e
    cases of_decide_eq_true h
    exact ⟨_, _, _, e⟩
  · cases h
theorem file_of {K : PySem.W.Frag} {cd : Addr} {file : Str} (h : fileB K cd file = true) : ∃ c1 c2 vs c3 f tf, K.lookup cd = some ⟨c1, c2, .fields vs, c3⟩ ∧ vs[2]? = some (.str f tf) ∧ (file == f) = true := by
  unfold fileB at h
  split at h
  · rename_i c1 c2 vs c3 e
    split at h
    · rename_i f tf e2
      exact ⟨_, _, _, _, _, _, e, e2, h⟩
    · cases h
  · cases h
theorem oex_of {K : PySem.W.Frag} {C : Addr} (h : oexB K C = true) : ∃ nm q N bs bm sn sub ab col dd k0 k1 k2 k3 k5, K.lookup C = some (excClassObj nm q C N bs bm true sn sub ab col dd k0 k1 k2 k3 k5 "ValueError.__new__") ∧ PySem.HandSPX.refsVE bm = true := by
  unfold oexB at h
  split at h
  · rename_i dd cd sl ho
    split at h
    · rename_i D bm k0 k1 k2 k3 n k5 hm hs
      simp only [Bool.and_eq_true, decide_eq_true_eq, Bool.not_eq_true'] at h
      obtain ⟨rfl, rfl, hdel, hd, hv⟩ := h
      obtain ⟨nm, bs, mro, ns, qn, hdc, sn, sub, ab, col, del⟩ := cd
      dsimp only at hm hdel hd
      subst hm hdel hd
      have hsl : sl = #[k0, k1, k2, k3, some (.builtin "ValueError.__new__"), k5] := by
        obtain ⟨l⟩ := sl
        simp only at hs
        rw [hs]
      subst hsl
      exact ⟨_, _, _, _, _, _, _, _, _, _, _, _, _, _, _, ho, hv⟩
    · cases h
  · cases h
theorem one_of {P : Program} {K : PySem.W.Frag} {d : ErrD} {l : List Value} (t : Text d) (e : iObs K d.nm = d.val) (o : oneB K P.main.file d = true) (b : basB K (He.ga K d.nm) = true) (m : mroB K (He.ga K d.nm) (.ref (He.ga K d.nm) :: l ++ vTail) = true)
    (g : genB K = true) (tp : (P.main.scope.names.lookup ("super" : Str)).isSome = false) : One P K (He.ga K d.nm) d.att := by
  obtain ⟨msg, q1, q2, q3, q4, q5, q6, q7, q8, q9, q10, h1, h2, h3, h4, h5, h6, h7, h8, h9, h10⟩ := t.ex
  unfold oneB at o
  simp only [Bool.and_eq_true, decide_eq_true_eq] at o
  obtain ⟨o1, o2, o3, o4, o5, o6, o7⟩ := o
  have I := isi_of b m g
  have hm : (PySem.W.clsIn K (He.ga K d.nm)).map (·.mro) = some (.ref (He.ga K d.nm) :: l ++ vTail) := of_decide_eq_true m
  obtain ⟨cl, hc, hmr⟩ := Option.map_eq_some_iff.mp hm
  have inM : ∀ v, (Value.ref (He.ga K d.nm) :: l ++ vTail).contains v = true → PySem.W.mroIn K (He.ga K d.nm) v = some true := fun v hv => by
    unfold PySem.W.mroIn
    rw [hc]
    show (if cl.mro.isEmpty = true then none else some (cl.mro.contains v)) = some true
    rw [hmr, hv]
    rfl
  unfold basB at b
  unfold genB at g
  simp only [Bool.and_eq_true, decide_eq_true_eq] at b g
  unfold iniB at o1
  unfold iObs at e
  cases q : K.lookup (ini K d.nm) with
  | none =>
    rw [q] at o1
    cases o1
  | some ob =>
    obtain ⟨oc, od, dt, osl⟩ := ob
    rw [q] at o1 e
    cases dt with
    | func fd =>
      obtain ⟨n1, n2, n3, n4, n5, n6, n7, n8, n9, n10, n11, n12, n13, n14, n15⟩ := fd
      have e2 : (some (n1, n2, n3, n4, n5, n6, n15) : FnI) = d.val := e
      unfold ErrD.val at e2
      simp only [Option.some.injEq, Prod.mk.injEq] at e2
      obtain ⟨r1, r2, r3, r4, r5, r6, r7⟩ := e2
      subst r1 r2 r3 r4 r5 r6 r7
      dsimp only at o1
      split at o1
      · rename_i x cc cd
        simp only [Bool.and_eq_true, decide_eq_true_eq] at o1
        obtain ⟨rfl, p1, p2, p3⟩ := o1
        exact ⟨⟨ini K d.nm, cc, cd, d.st, d.qual, msg, q1, q2, q3, q4, q5, q6, q7, q8, q9, q10, plS,
          ⟨⟨oex_of o2, He.eqO_ok o3, I.sb, b.1, b.2.1⟩, He.eqO_ok o4, o5, ⟨_, _, _, _, _, _, _, _, q⟩, p2, file_of p3, cell_of p1, He.eqO_ok o6, He.eqO_ok g.2.2.1, inM _ (by simp), inM _ (by rw [List.contains_iff_mem]; exact List.mem_append_right _ (by unfold vTail; simp)), He.eqO_ok o7, tp⟩,
          h1, h2, h3, h4, h5, h6, h7, h8, fun _ _ _ _ _ _ _ => h9 _ _ _ _ _ _ _ _ _, fun _ _ _ _ _ _ _ => h10 _ _ _ _ _ _ _ _ _⟩⟩
      · cases o1
    | _ => cases o1
end Hk
set_option maxHeartbeats 4000000
namespace Hk
open PySem PySem.Spec PyProof.Rows L2 NdefX Err Kn
theorem t0 : Text d0 :=
  ⟨_, _, _, _, _, _, _, _, _, _, _, nscope_by (by decide +kernel), rfl, fun _ => rfl, rfl, rfl, rfl, rfl, fun _ => rfl, fun _ _ _ _ _ _ _ _ _ => rfl, fun _ _ _ _ _ _ _ _ _ => rfl⟩
theorem t1 : Text d1 :=
  ⟨_, _, _, _, _, _, _, _, _, _, _, nscope_by (by decide +kernel), rfl, fun _ => rfl, rfl, rfl, rfl, rfl, fun _ => rfl, fun _ _ _ _ _ _ _ _ _ => rfl, fun _ _ _ _ _ _ _ _ _ => rfl⟩
theorem t2 : Text d2 :=
  ⟨_, _, _, _, _, _, _, _, _, _, _, nscope_by (by decide +kernel), rfl, fun _ => rfl, rfl, rfl, rfl, rfl, fun _ => rfl, fun _ _ _ _ _ _ _ _ _ => rfl, fun _ _ _ _ _ _ _ _ _ => rfl⟩
theorem t3 : Text d3 :=
  ⟨_, _, _, _, _, _, _, _, _, _, _, nscope_by (by decide +kernel), rfl, fun _ => rfl, rfl, rfl, rfl, rfl, fun _ => rfl, fun _ _ _ _ _ _ _ _ _ => rfl, fun _ _ _ _ _ _ _ _ _ => rfl⟩
theorem t4 : Text d4 :=
  ⟨_, _, _, _, _, _, _, _, _, _, _, nscope_by (by decide +kernel), rfl, fun _ => rfl, rfl, rfl, rfl, rfl, fun _ => rfl, fun _ _ _ _ _ _ _ _ _ => rfl, fun _ _ _ _ _ _ _ _ _ => rfl⟩
theorem t5 : Text d5 :=
  ⟨_, _, _, _, _, _, _, _, _, _, _, nscope_by (by decide +kernel), rfl, fun _ => rfl, rfl, rfl, rfl, rfl, fun _ => rfl, fun _ _ _ _ _ _ _ _ _ => rfl, fun _ _ _ _ _ _ _ _ _ => rfl⟩
theorem t6 : Text d6 :=
  ⟨_, _, _, _, _, _, _, _, _, _, _, nscope_by (by decide +kernel), rfl, fun _ => rfl, rfl, rfl, rfl, rfl, fun _ => rfl, fun _ _ _ _ _ _ _ _ _ => rfl, fun _ _ _ _ _ _ _ _ _ => rfl⟩
theorem t7 : Text d7 :=
  ⟨_, _, _, _, _, _, _, _, _, _, _, nscope_by (by decide +kernel), rfl, fun _ => rfl, rfl, rfl, rfl, rfl, fun _ => rfl, fun _ _ _ _ _ _ _ _ _ => rfl, fun _ _ _ _ _ _ _ _ _ => rfl⟩
theorem t8 : Text d8 :=
  ⟨_, _, _, _, _, _, _, _, _, _, _, nscope_by (by decide +kernel), rfl, fun _ => rfl, rfl, rfl, rfl, rfl, fun _ => rfl, fun _ _ _ _ _ _ _ _ _ => rfl, fun _ _ _ _ _ _ _ _ _ => rfl⟩
theorem t9 : Text d9 :=
  ⟨_, _, _, _, _, _, _, _, _, _, _, nscope_by (by decide +kernel), rfl, fun _ => rfl, rfl, rfl, rfl, rfl, fun _ => rfl, fun _ _ _ _ _ _ _ _ _ => rfl, fun _ _ _ _ _ _ _ _ _ => rfl⟩
theorem t10 : Text d10 :=
  ⟨_, _, _, _, _, _, _, _, _, _, _, nscope_by (by decide +kernel), rfl, fun _ => rfl, rfl, rfl, rfl, rfl, fun _ => rfl, fun _ _ _ _ _ _ _ _ _ => rfl, fun _ _ _ _ _ _ _ _ _ => rfl⟩
theorem t11 : Text d11 :=
  ⟨_, _, _, _, _, _, _, _, _, _, _, nscope_by (by decide +kernel), rfl, fun _ => rfl, rfl, rfl, rfl, rfl, fun _ => rfl, fun _ _ _ _ _ _ _ _ _ => rfl, fun _ _ _ _ _ _ _ _ _ => rfl⟩
theorem t12 : Text d12 :=
  ⟨_, _, _, _, _, _, _, _, _, _, _, nscope_by (by decide +kernel), rfl, fun _ => rfl, rfl, rfl, rfl, rfl, fun _ => rfl, fun _ _ _ _ _ _ _ _ _ => rfl, fun _ _ _ _ _ _ _ _ _ => rfl⟩
theorem t13 : Text d13 :=
  ⟨_, _, _, _, _, _, _, _, _, _, _, nscope_by (by decide +kernel), rfl, fun _ => rfl, rfl, rfl, rfl, rfl, fun _ => rfl, fun _ _ _ _ _ _ _ _ _ => rfl, fun _ _ _ _ _ _ _ _ _ => rfl⟩
theorem t14 : Text d14 :=
  ⟨_, _, _, _, _, _, _, _, _, _, _, nscope_by (by decide +kernel), rfl, fun _ => rfl, rfl, rfl, rfl, rfl, fun _ => rfl, fun _ _ _ _ _ _ _ _ _ => rfl, fun _ _ _ _ _ _ _ _ _ => rfl⟩
theorem t15 : Text d15 :=
  ⟨_, _, _, _, _, _, _, _, _, _, _, nscope_by (by decide +kernel), rfl, fun _ => rfl, rfl, rfl, rfl, rfl, fun _ => rfl, fun _ _ _ _ _ _ _ _ _ => rfl, fun _ _ _ _ _ _ _ _ _ => rfl⟩
theorem t16 : Text d16 :=
  ⟨_, _, _, _, _, _, _, _, _, _, _, nscope_by (by decide +kernel), rfl, fun _ => rfl, rfl, rfl, rfl, rfl, fun _ => rfl, fun _ _ _ _ _ _ _ _ _ => rfl, fun _ _ _ _ _ _ _ _ _ => rfl⟩
theorem t17 : Text d17 :=
  ⟨_, _, _, _, _, _, _, _, _, _, _, nscope_by (by decide +kernel), rfl, fun _ => rfl, rfl, rfl, rfl, rfl, fun _ => rfl, fun _ _ _ _ _ _ _ _ _ => rfl, fun _ _ _ _ _ _ _ _ _ => rfl⟩
theorem t18 : Text d18 :=
  ⟨_, _, _, _, _, _, _, _, _, _, _, nscope_by (by decide +kernel), rfl, fun _ => rfl, rfl, rfl, rfl, rfl, fun _ => rfl, fun _ _ _ _ _ _ _ _ _ => rfl, fun _ _ _ _ _ _ _ _ _ => rfl⟩
theorem t19 : Text d19 :=
  ⟨_, _, _, _, _, _, _, _, _, _, _, nscope_by (by decide +kernel), rfl, fun _ => rfl, rfl, rfl, rfl, rfl, fun _ => rfl, fun _ _ _ _ _ _ _ _ _ => rfl, fun _ _ _ _ _ _ _ _ _ => rfl⟩
theorem ed_at : ∀ i, i < 20 → ∃ d, ED[i]? = some d ∧ d.nm = NM.getD (40 + i) "" ∧ d.att = AT.getD i "" ∧ Text d
  | 0, _ => ⟨d0, rfl, rfl, rfl, t0⟩
  | 1, _ => ⟨d1, rfl, rfl, rfl, t1⟩
  | 2, _ => ⟨d2, rfl, rfl, rfl, t2⟩
  | 3, _ => ⟨d3, rfl, rfl, rfl, t3⟩
  | 4, _ => ⟨d4, rfl, rfl, rfl, t4⟩
  | 5, _ => ⟨d5, rfl, rfl, rfl, t5⟩
  | 6, _ => ⟨d6, rfl, rfl, rfl, t6⟩
  | 7, _ => ⟨d7, rfl, rfl, rfl, t7⟩
  | 8, _ => ⟨d8, rfl, rfl, rfl, t8⟩
  | 9, _ => ⟨d9, rfl, rfl, rfl, t9⟩
  | 10, _ => ⟨d10, rfl, rfl, rfl, t10⟩
  | 11, _ => ⟨d11, rfl, rfl, rfl, t11⟩
  | 12, _ => ⟨d12, rfl, rfl, rfl, t12⟩
  | 13, _ => ⟨d13, rfl, rfl, rfl, t13⟩
  | 14, _ => ⟨d14, rfl, rfl, rfl, t14⟩
  | 15, _ => ⟨d15, rfl, rfl, rfl, t15⟩
  | 16, _ => ⟨d16, rfl, rfl, rfl, t16⟩
  | 17, _ => ⟨d17, rfl, rfl, rfl, t17⟩
  | 18, _ => ⟨d18, rfl, rfl, rfl, t18⟩
  | 19, _ => ⟨d19, rfl, rfl, rfl, t19⟩
  | n + 20, h => by omega
end Hk
set_option maxHeartbeats 4000000
namespace Hk
open PySem PySem.Spec PyProof.Rows L2 NdefX Err Kn
theorem nodB_ok : ∀ {l : List Addr}, nodB l = true → l.Nodup
  | [], _ => List.nodup_nil
  | a :: r, h => by
    have h2 : (!r.contains a && nodB r) = true := h
    simp only [Bool.and_eq_true, Bool.not_eq_true'] at h2
    refine List.nodup_cons.mpr ⟨fun z => ?_, nodB_ok h2.2⟩
    rw [← List.contains_iff_mem, h2.1] at z
    cases z
/-- the i-th def -/
theorem fun_at {file : Str} {fa : List He.Fa} {fn : List He.FnD} {ed : List ErrD} {K : PySem.W.Frag} (c : obsK file fa fn ed K = valK fn ed) (i : Nat) {x : Str} {st : Stmt} (h : fn[i]? = some ⟨(x, none), x, x, defArgs st, defBody st, defScope st⟩) :
    ∃ fd, L2.Fun K x x st (He.ga K x) fd := by
  have c1 : chk file fa fn ed K = true := congrArg (fun z : AlK => z.1) c
  unfold chk at c1
  simp only [Bool.and_eq_true] at c1
  have c2 := List.all_eq_true.mp c1.2.2.2.2.2.2.2 _ (List.mem_of_getElem? h)
  simp only [Bool.and_eq_true] at c2
  have e : fn.map (fun d => He.fnObs K d.at_) = fn.map He.FnD.val := congrArg (fun z : AlK => z.2.1) c
  have e2 : (fn.map fun d => He.fnObs K d.at_)[i]? = (fn.map He.FnD.val)[i]? := by rw [e]
  rw [List.getElem?_map, List.getElem?_map, h] at e2
  obtain ⟨oc, od, osl, kV, doc, pm, an, cdv, ct, lk, hcd⟩ := He.fn_ok (Option.some.inj e2) c2.1
  exact ⟨_, fun_mk lk hcd c2.2⟩
theorem fact_at {file : Str} {fa : List He.Fa} {fn : List He.FnD} {ed : List ErrD} {K : PySem.W.Frag} (c : obsK file fa fn ed K = valK fn ed) (i : Nat) {f : He.Fa} (h : fa[i]? = some f := by rfl) : f.ok K = true := by
  have c1 : chk file fa fn ed K = true := congrArg (fun z : AlK => z.1) c
  unfold chk at c1
  simp only [Bool.and_eq_true] at c1
  exact List.all_eq_true.mp c1.2.2.2.2.2.2.1 _ (List.mem_of_getElem? h)
theorem nm_mem {i : Nat} (h : i < 60) : NM.getD i "" ∈ NM := by
  have e : NM.length = 60 := rfl
  rw [List.getD_eq_getElem?_getD, List.getElem?_eq_getElem (by omega)]
  exact List.getElem_mem _
theorem nm_mem40 {i : Nat} (h : i < 40) : NM.getD i "" ∈ NM.take 40 := by
  have e : NM.length = 60 := rfl
  have e2 : (NM.take 40)[i]? = some (NM.getD i "") := by
    rw [List.getElem?_take_of_lt h, List.getD_eq_getElem?_getD, List.getElem?_eq_getElem (by omega)]
    rfl
  exact List.mem_of_getElem? e2
theorem sys_at {file : Str} {fa : List He.Fa} {fn : List He.FnD} {ed : List ErrD} {K : PySem.W.Frag} (c : obsK file fa fn ed K = valK fn ed) : ∃ o, K.lookup sysModules = some o := by
  have c1 : chk file fa fn ed K = true := congrArg (fun z : AlK => z.1) c
  unfold chk genB at c1
  simp only [Bool.and_eq_true] at c1
  exact Option.isSome_iff_exists.mp c1.1.2.2.2
def top_of {P : Program} {K : PySem.W.Frag} {h : Heap} {mg : Str → Option Value} {fa : List He.Fa} {fn : List He.FnD} (X : K.In h) (G : h.Ns mainGlobals mg) (c : obsK P.main.file fa fn ED K = valK fn ED)
    (tp : (P.main.scope.names.lookup ("super" : Str)).isSome = false) (m1 : mg "isinstance" = none) (m2 : mg "super" = none) : Top P K mg := by
  have c1 : chk P.main.file fa fn ED K = true := congrArg (fun z : AlK => z.1) c
  unfold chk at c1
  simp only [Bool.and_eq_true] at c1
  obtain ⟨g, ⟨s1, s2, s3, s4⟩, n, x40, nd, od, _, _⟩ := c1
  have all : ∀ i, i < 60 → (He.Fa.glo (NM.getD i "")).ok K = true ∧ basB K (He.ga K (NM.getD i "")) = true ∧ mroB K (He.ga K (NM.getD i "")) ([.ref (He.ga K (NM.getD i "")), .ref (He.ga K bS)] ++ vTail) = true := fun i hi => by
    have z := List.all_eq_true.mp n _ (nm_mem hi)
    unfold clsB at z
    simp only [Bool.and_eq_true] at z
    exact z
  have nd := nodB_ok nd
  have inS : ∀ i, i < 60 → He.ga K (NM.getD i "") ≠ He.ga K bS := fun i hi z => by
    refine (List.nodup_cons.mp (show (He.ga K bS :: NM.map (He.ga K)).Nodup from nd)).1 ?_
    rw [← z]
    exact List.mem_map_of_mem (nm_mem hi)
  have inj : ∀ i j, i < 60 → j < 60 → He.ga K (NM.getD j "") = He.ga K (NM.getD i "") → j = i := fun i j hi hj z => by
    have nd2 := (List.nodup_cons.mp (show (He.ga K bS :: NM.map (He.ga K)).Nodup from nd)).2
    have e : NM.length = 60 := rfl
    have ln : (NM.map (He.ga K)).length = 60 := by rw [List.length_map]; exact e
    have at_ : ∀ k (hk : k < 60), (NM.map (He.ga K))[k]'(by omega) = He.ga K (NM.getD k "") := fun k hk => by
      rw [List.getElem_map, List.getD_eq_getElem?_getD, List.getElem?_eq_getElem (by omega)]
      rfl
    have z2 := (at_ j hj).trans (z.trans (at_ i hi).symm)
    by_cases q : j = i
    · exact q
    · have pw := List.pairwise_iff_getElem.mp (List.nodup_iff_pairwise_ne.mp nd2)
      rcases Nat.lt_or_gt_of_ne q with y | y
      · exact absurd z2 (pw j i (by omega) (by omega) y)
      · exact absurd z2.symm (pw i j (by omega) (by omega) y)
  have no_ : ∀ i, i < 20 → One P K (He.ga K (NM.getD (40 + i) "")) (AT.getD i "") ∧ PySem.W.findIn K (.ref (He.ga K (NM.getD (40 + i) ""))) (AT.getD i "") = some Option.none := fun i hi => by
    obtain ⟨d, hd, hn, ha, ht⟩ := ed_at i hi
    obtain ⟨a1, a2, a3⟩ := all (40 + i) (by omega)
    rw [← hn] at a2 a3 ⊢
    rw [← ha]
    have o := List.all_eq_true.mp od _ (List.mem_of_getElem? hd)
    have e : ED.map (fun d => iObs K d.nm) = ED.map ErrD.val := congrArg (fun z : AlK => z.2.2) c
    have e2 : (ED.map fun d => iObs K d.nm)[i]? = (ED.map ErrD.val)[i]? := by rw [e]
    rw [List.getElem?_map, List.getElem?_map, hd] at e2
    refine ⟨one_of (l := [.ref (He.ga K bS)]) ht (Option.some.inj e2) o a2 a3 g tp, ?_⟩
    unfold oneB at o
    simp only [Bool.and_eq_true] at o
    exact He.eqO_ok o.2.2.2.2.2.2
  have kp : ∀ C, basB K C = true → PySem.W.keepIn K (.ref C) = true := fun C b => by
    unfold basB at b
    simp only [Bool.and_eq_true] at b
    exact b.2.1
  exact {
    S := He.ga K bS
    c := fun i => He.ga K (NM.getD i "")
    mgS := He.glo_ok X G s1
    mgc := fun i hi => He.glo_ok X G (all i hi).1
    kpS := kp _ s2
    kp := fun i hi => kp _ (all i hi).2.1
    isS := isi_of (l := []) s2 s3 g
    is := fun i hi => isi_of (l := [.ref (He.ga K bS)]) (all i hi).2.1 (all i hi).2.2 g
    kit := fun i j hi hj => by
      rw [kit_ref (l := [He.ga K (NM.getD i ""), He.ga K bS]) (all i hi).2.2 rfl (all j hj).2.1]
      congr 1
      by_cases z : j = i
      · subst z
        rw [decide_eq_true (rfl : j = j)]
        exact decide_eq_true (List.mem_cons_self ..)
      · rw [decide_eq_false z]
        refine decide_eq_false fun y => ?_
        rcases List.mem_cons.mp y with y | y
        · exact z (inj i j hi hj y)
        · exact inS j hj (List.mem_singleton.mp y)
    kitS := fun i hi => by
      rw [kit_ref (l := [He.ga K (NM.getD i ""), He.ga K bS]) (all i hi).2.2 rfl s2]
      congr 1
      exact decide_eq_true (by simp)
    kitV := fun i hi => kit_VE (l := [.ref (He.ga K bS)]) (all i hi).2.2
    none := fun j hj => by
      rw [kit_ref (l := [He.ga K bS]) s3 rfl (all j hj).2.1]
      congr 1
      exact decide_eq_false fun y => inS j hj (List.mem_singleton.mp y)
    SV := kit_VE (l := []) s3
    exS := s4
    ex := fun i hi => List.all_eq_true.mp x40 _ (nm_mem40 hi)
    one := fun i hi => (no_ i hi).1
    no := fun i hi => (no_ i hi).2
    isn := m1
    sup := m2 }
end Hk
set_option maxHeartbeats 0
namespace Gd
open PySem PySem.Spec PyProof.Rows L2
/-- the end of a law, told over whatever part of the heap the head has looked at -/
theorem walkGE {l : PySem.W.OpenLaw} {n k : Nat} {q : Program} {loose : List Str} {XP : (Str → Option Value) → Heap → Prop} {YP : World → Heap → Prop} {d : DefRec} {x : Str}
    (hn : l.most = some n) (hn2 : n ≤ sizeLine) (hdf : d.params.defaults = []) (hr : Room k callerA)
    (F : ∀ (w : World) (mg : Str → Option Value) (fa : Addr) (h : Heap), YP w h → h.Ns mainGlobals mg → mg d.name = some (.ref fa) →
      ∃ (K : PySem.W.Frag) (fd : FuncData) (sp : Sp), K.In h ∧ (∀ (s : Shared) (u : Value), BindsTo s fd ⟨[u], []⟩ [(x, u)]) ∧
        (∀ (H : Hp) (a : Addr) (ns : List Int), ns.length ≤ n → Only H → SqL K H a (ns.map V.int) → sp [.ref a] H (fun v _ => v = .bl true) fun _ _ _ => False) ∧
        ∀ base : Heap, K.In base → base.Ns mainGlobals mg → FnOkG l.prog w K mg base CX0 k fa fd [x] sp) :
    PySem.W.WalkO q loose XP YP l.row.toRowW d [] (fun f vs => PySem.call f vs) := by
  refine Att.attach_call hn hdf fun w s₀ s mg mb fa o pm cd doc a vs ns G Y ho hd hcd hmg hobj hints hlen hg => ?_
  obtain ⟨K, fd, sp, kin, bind, hsp, hF⟩ := F w mg fa _ Y G.T.g hmg
  have len : ns.length ≤ sizeLine := Nat.le_trans hlen hn2
  have rv := vals_ints hints
  cases hk : K.lookup a with
  | some oa =>
    have z := kin a oa hk
    rw [hobj] at z
    cases z
    have hS : SqL K (fun _ => none) a (ns.map V.int) := .inr ⟨_, vs.toArray, _, hk, rfl, rfl, rfl, by rw [List.size_toArray, hints.length]; exact len, by simpa using rv⟩
    exact from_heap kin G.T.g G.T.b G.T.builtins G.T.nolimit hg hobj hr hF bind (fun _ => .inl rfl) (fun b u y => by cases y) (fun b y => absurd rfl y) (fun y => absurd rfl y) (hsp _ a ns hlen (fun _ => .inl rfl) hS)
  | none =>
    have at_a : scriptH a vs ns a = some (.frz { cls := .type "list", data := .seq vs.toArray } (.lst (ns.map V.int))) := if_pos rfl
    have other : ∀ b, b ≠ a → scriptH a vs ns b = none := fun b hb => if_neg hb
    have hO : Only (scriptH a vs ns) := fun b => by
      by_cases hb : b = a
      · exact .inr ⟨_, _, if_pos hb⟩
      · exact .inl (if_neg hb)
    refine from_heap kin G.T.g G.T.b G.T.builtins G.T.nolimit hg hobj hr hF bind hO (fun b u y => ?_) (fun b y => ?_) (fun _ => hk) (hsp _ a ns hlen hO (.inl (.inr ⟨_, at_a⟩)))
    · by_cases hb : b = a
      · subst hb
        rw [at_a] at y
        cases y
        exact ⟨hobj, by rw [List.length_map]; exact len, vs, _, rv, hobj⟩
      · rw [other b hb] at y
        cases y
    · by_cases hb : b = a
      · exact hb
      · exact absurd (other b hb) y
end Gd
namespace Hk
open PySem PySem.Spec PyProof.Rows L2 NdefX Err Kn
theorem binds_one {K : PySem.W.Frag} {x qual p : Str} {st : Stmt} {f : Addr} {fd : FuncData} (F : L2.Fun K x qual st f fd)
    (h : ∀ (kV doc pm : Value) (an : Option Addr) (cdv ct u : Value), bindArgs (PySem.W.fnOf x qual (defArgs st) (defBody st) (defScope st) .none kV doc pm an cdv ct) ⟨[u], []⟩ = pure [(p, u)]) (s : Shared) (u : Value) : BindsTo s fd ⟨[u], []⟩ [(p, u)] := by
  obtain ⟨oc, od, kV, doc, pm, an, cdv, ct, osl, rfl, lk, hcd⟩ := F.ex
  exact .of_eq (h kV doc pm an cdv ct u)
theorem facts {w : World} {K : PySem.W.Frag} {h : Heap} {mg : Str → Option Value} {f : Addr} (X : K.In h) (G : h.Ns mainGlobals mg) (hfa : mg ("law" : Str) = some (.ref f)) (c : obsK R.prog.main.file fa fn ED K = valK fn ED) :
    ∃ fd : FuncData, (∀ (s : Shared) (v : Value), BindsTo s fd ⟨[v], []⟩ [("_law_script", v)]) ∧ ∀ base : Heap, K.In base → base.Ns mainGlobals mg → Gd.FnOkG RW.prog w K mg base CX0 5 f fd ["_law_script"] (spLaw K) := by
  obtain ⟨b0, F0⟩ := fun_at c 0 (x := "_law_begun") (st := topS 63) rfl
  obtain ⟨b1, F1⟩ := fun_at c 1 (x := "_law_mixed") (st := topS 64) rfl
  obtain ⟨b2, F2⟩ := fun_at c 2 (x := "_law_take") (st := topS 65) rfl
  obtain ⟨b3, F3⟩ := fun_at c 3 (x := "_law_pick") (st := topS 66) rfl
  obtain ⟨b4, F4⟩ := fun_at c 4 (x := "_law_any") (st := topS 67) rfl
  obtain ⟨b5, F5⟩ := fun_at c 5 (x := "_law_former") (st := topS 68) rfl
  obtain ⟨b6, F6⟩ := fun_at c 6 (x := "_law_latter") (st := topS 69) rfl
  obtain ⟨b7, F7⟩ := fun_at c 7 (x := "_law_bare") (st := topS 70) rfl
  obtain ⟨b8, F8⟩ := fun_at c 8 (x := "_law_filled") (st := topS 71) rfl
  obtain ⟨b9, F9⟩ := fun_at c 9 (x := "_law_kept") (st := topS 72) rfl
  obtain ⟨fd, F⟩ := fun_at c 10 (x := "law") (st := topS 73) rfl
  have fr := fun (i : Nat) (x : Str) (h : fa[i]? = some (.free x)) => He.free_ok X G (fact_at c i h)
  have gl := fun (i : Nat) (x : Str) (h : fa[i]? = some (.glo x)) => He.glo_ok X G (fact_at c i h)
  have e := hfa.symm.trans (gl 19 "law" rfl)
  cases e
  have T : Top RW.prog K mg := top_of X G c (by decide +kernel) (fr 0 _ rfl) (fr 1 _ rfl)
  have B1 := F1.binds (ps := ["_law_draw"]) fun _ _ _ _ _ _ us hl => match us, hl with | [_], _ => rfl
  have B2 := F2.binds (ps := ["_law_draw", "_law_amount"]) fun _ _ _ _ _ _ us hl => match us, hl with | [_, _], _ => rfl
  have B3 := F3.binds (ps := ["_law_draw", "_law_some"]) fun _ _ _ _ _ _ us hl => match us, hl with | [_, _], _ => rfl
  refine ⟨fd, binds_one F fun _ _ _ _ _ _ _ => rfl, fun base KB GB => ?_⟩
  have P3 : FnOk RW.prog w K mg base CX0 3 _ b3 ["_law_draw", "_law_some"] spPick := ok_pick F3 F2 F1 B2 B1 (gl 11 _ rfl) (gl 10 _ rfl) (fr 6 _ rfl) (fr 7 _ rfl)
  exact ok_law F T (sys_at c)
    ⟨_, _, ok_begun F0 (fr 8 _ rfl), F0.kp, F0.binds fun _ _ _ _ _ _ us hl => match us, hl with | [_], _ => rfl, gl 9 _ rfl⟩
    ⟨_, _, P3, F3.kp, B3, gl 12 _ rfl⟩
    ⟨_, _, ok_any F4 P3 F3.kp B3 (gl 12 _ rfl), F4.kp, F4.binds fun _ _ _ _ _ _ us hl => match us, hl with | [_], _ => rfl, gl 13 _ rfl⟩
    ⟨_, _, ok_filled F8 T, F8.kp, F8.binds fun _ _ _ _ _ _ us hl => match us, hl with | [_], _ => rfl, gl 17 _ rfl⟩
    ⟨_, _, ok_bare F7 T, F7.kp, F7.binds fun _ _ _ _ _ _ us hl => match us, hl with | [_], _ => rfl, gl 16 _ rfl⟩
    ⟨_, _, ok_former F5 T, F5.kp, F5.binds fun _ _ _ _ _ _ us hl => match us, hl with | [_], _ => rfl, gl 14 _ rfl⟩
    ⟨_, _, ok_latter F6 T, F6.kp, F6.binds fun _ _ _ _ _ _ us hl => match us, hl with | [_], _ => rfl, gl 15 _ rfl⟩
    ⟨_, _, ok_kept F9, F9.kp, F9.binds fun _ _ _ _ _ _ us hl => match us, hl with | [_], _ => rfl, gl 18 _ rfl⟩
    (fr 2 _ rfl) (fr 3 _ rfl) (fr 4 _ rfl) (fr 5 _ rfl)
end Hk
open PySem PySem.W PySem.Calls PyProof.Rows
theorem PySem.Challenge.cw_stillknown_k01_errors_of_all_parts_holds : PySem.Challenge.rw_stillknown_k01_errors_of_all_parts.Holds := by
  w_on; o_law
  refine HandSHeadRun.head_any (r := OpenLaw.row PySem.Challenge.rw_stillknown_k01_errors_of_all_parts) (q := view (OpenLaw.row PySem.Challenge.rw_stillknown_k01_errors_of_all_parts).prog [73]) (H := Hk.hk) (ob := Hk.ob) (M := 15000) (loose := Hk.loose) (d := HandSHeadRun.topDef (OpenLaw.row PySem.Challenge.rw_stillknown_k01_errors_of_all_parts).prog 73) (kwd := []) Hk.ob_eq
    (by kernel_rfl) (fun s => by kernel_rfl) Hk.run (by kernel_rfl) (by kernel_rfl) (by kernel_rfl) (by rfl) (by first | assumption | decide +kernel) (by decide +kernel) ⟨rfl, rfl, rfl, rfl, rfl, by decide +kernel⟩ ?hw ?hc
  case hw => w_witness2
  case hc =>
    refine Gd.walkGE (l := PySem.Challenge.rw_stillknown_k01_errors_of_all_parts) (n := 63) (k := 5) (x := "_law_script") rfl (by decide) (by kernel_rfl) ⟨rfl, by decide, by decide⟩ ?F
    intro w mg fa h Y G hmg0
    obtain ⟨K, KX, c⟩ := Y
    have hmg : mg ("law" : PySem.Str) = some (.ref fa) := by
      have e : (HandSHeadRun.topDef (OpenLaw.row PySem.Challenge.rw_stillknown_k01_errors_of_all_parts).prog 73).name = ("law" : PySem.Str) := by kernel_rfl
      rw [← e]
      exact hmg0
    obtain ⟨fd, hb, hF⟩ := Hk.facts (w := w) KX G hmg c
    exact ⟨K, fd, Kn.spLaw K, KX, hb, fun H a ns hl _ hS => ⟨a, ns, rfl, hS, hl, fun _ => rfl⟩, hF⟩
