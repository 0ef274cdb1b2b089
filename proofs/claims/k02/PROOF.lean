import PyProof.Rows.All
import Wide.All
import OpenK.AllK
import Wide.FinOn
import KE.KNest
import KE.KNestM
import HandS.ForMost
import HandS.HeadHook2
import HandS.HeadHook4
import HandS.Head2
import HandS.HeadEnd
import HandS.Walk
import HandS.ExcValue
import HandS.ExcInit
import HandS.Nested
import HandS.IsInst
import KE.KExcSuper
import HandS.ExcField
import KE.KExcIs
import HandS.Text
import HandS.Iter
import KE.GoesMore
import PyProof.EnumMake
import HandS.Lambda
import HandS.WordsExc
import HandS.WordsDict
import HandS.SetFor
import HandS.List
import KE.KDictSum
import HandS.SortInts
import HandS.Dict
import HandS.Sort
import PyProof.DictWalks
import PyProof.WalkInts
import HandS.DictComp
import HandS.More
import HandS.Conv
import PyProof.TupleOfGen
import HandS.DeepEq
import HandS.Property
import HandS.ListItems
import KE.KDictList
import PyProof.DictValues
import HandS.TupSets
import PyProof.NeKinds
import HandS.NoneIn
import HandS.RaiseMore
import PyProof.InstEq
import HandS.OwnEq
import HandS.SlotsOwn
import HandS.Call
import HandS.MakeKwOnly
import HandS.FStr
import HandS.Style
import PyProof.ReprLen
import HandS.Finally
import HandS.EndTab
import HandS.NestedK
import PySem.Challenge.RW_stillknown_k02_patterns_made_and_fitted
set_option Elab.async false
set_option linter.all false
set_option maxRecDepth 100000
-- part Hq
set_option maxHeartbeats 0
/-! What the law's top leaves on the heap, looked at by names, and the run of that top. -/
namespace Hk
open PySem PySem.Spec PyProof.Rows L2
def tS (i : Nat) : Stmt := PySem.Challenge.pw_stillknown_k02_patterns_made_and_fitted.main.body.getD i (.Pass ⟨0, 0, 0, 0⟩)
/-- the text of an error class with an __init__: its name, its attribute, the __init__ -/
structure ErrD where
  nm : Str
  att : Str
  qual : Str
  params : Arguments
  body : List Stmt
  scope : Scope
def vTail : List Value := [.type "ValueError", .type "Exception", .type "BaseException", .type "object"]
def eqM (a b : Option (List Value)) : Bool := decide (a = b)
/-- a class of errors, as isinstance and the making ask -/
def basB (K : PySem.W.Frag) (C : Addr) : Bool :=
  decide (PySem.W.typeIn K (.ref C) = some (.type "type")) && (PySem.W.keepIn K (.ref C) && ((PySem.W.clsIn K C).isSome && (He.eqO (PySem.W.findIn K (.ref C) "__getattribute__") (some (some (.builtin "BaseException.__getattribute__"))) &&
  (He.eqO (PySem.W.findIn K (.ref C) "__getattr__") (some none) && (He.eqO (PySem.W.findIn K (.ref C) "__class__") (some (some (.builtin "object.__class__"))) && PySem.W.hasDictIn K C)))))
def mroB (K : PySem.W.Frag) (C : Addr) (l : List Value) : Bool := eqM ((PySem.W.clsIn K C).map (·.mro)) (some l)
/-- facts that no class has of its own -/
def genB (K : PySem.W.Frag) : Bool :=
  He.eqO (PySem.W.specialIn K (.builtin "object.__class__") "__get__") (some (some (.builtin "getset_descriptor.__get__"))) && (decide (PySem.W.takesIn K (.builtin "object.__class__") = some true) &&
  (He.eqO (PySem.W.nsIn K cStatics "thirdparty.any") (some none) && (K.lookup sysModules).isSome))
/-- an __init__ with one cell -/
abbrev FnI : Type := Option (Str × Str × Arguments × FuncBody × Scope × Addr × Addr)
def ini (K : PySem.W.Frag) (x : Str) : Addr := He.ma K (He.ga K x) "__init__"
def iObs (K : PySem.W.Frag) (x : Str) : FnI := match K.lookup (ini K x) with
  | some ⟨_, _, .func fd, _⟩ => some (fd.name, fd.qualname, fd.params, fd.body, fd.scope, fd.globals, fd.builtins)
  | _ => none
def ErrD.val (d : ErrD) : FnI := some ("__init__", d.qual, d.params, .stmts d.body, d.scope, mainGlobals, builtinsNs)
def cellB (K : PySem.W.Frag) (cc C : Addr) : Bool := match K.lookup cc with
  | some ⟨_, _, .cell (some (.ref D)), _⟩ => decide (D = C)
  | _ => false
def fileB (K : PySem.W.Frag) (cd : Addr) (file : Str) : Bool := match K.lookup cd with
  | some ⟨_, _, .fields vs, _⟩ => (match (vs[2]? : Option Value) with
    | some (Value.str f _) => file == f
    | _ => false)
  | _ => false
def iniB (K : PySem.W.Frag) (file : Str) (d : ErrD) : Bool := match K.lookup (ini K d.nm) with
  | some ⟨_, _, .func fd, _⟩ => (match fd.closure, fd.defaults, fd.code with
    | [(x, cc)], .none, .ref cd => decide (x = "__class__") && (cellB K cc (He.ga K d.nm) && (PySem.W.codeIn K (.ref cd) d.qual && fileB K cd file))
    | _, _, _ => false)
  | _ => false
def oexB (K : PySem.W.Frag) (C : Addr) : Bool := match K.lookup C with
  | some ⟨.type "type", _, .cls cd, sl⟩ => (match cd.mro, sl.toList with
    | .ref D :: bm, [_, _, _, _, some (.builtin n), _] => decide (D = C) && (decide (n = "ValueError.__new__") && (!cd.hasDel && (cd.hasDict && PySem.HandSPX.refsVE bm)))
    | _, _ => false)
  | _ => false
def oneB (K : PySem.W.Frag) (file : Str) (d : ErrD) : Bool :=
  iniB K file d && (oexB K (He.ga K d.nm) && (He.eqO (PySem.W.findIn K (.ref (He.ga K d.nm)) "__setattr__") (some (some (.builtin "object.__setattr__"))) &&
  (He.eqO (PySem.W.findIn K (.ref (He.ga K d.nm)) "__init__") (some (some (.ref (ini K d.nm)))) && (decide (PySem.W.typeIn K (.ref (ini K d.nm)) = some (.type "function")) &&
  (He.eqO (PySem.W.ks_superIn K (He.ga K d.nm) (He.ga K d.nm) "__init__") (some (some (.builtin "ValueError.__init__"))) && He.eqO (PySem.W.findIn K (.ref (He.ga K d.nm)) d.att) (some none))))))
def bS : Str := "StillError"
def eD (n a q : Str) (c : Nat) : ErrD := ⟨n, a, q, defArgs (inClass (tS c) 0), defBody (inClass (tS c) 0), defScope (inClass (tS c) 0)⟩
def d0 : ErrD := eD "BadPattern" "part" "BadPattern.__init__" 2
def d1 : ErrD := eD "BadRows" "at" "BadRows.__init__" 3
def ED : List ErrD := [d0, d1]
def errB (K : PySem.W.Frag) (file : Str) (d : ErrD) : Bool :=
  (He.Fa.glo d.nm).ok K && (basB K (He.ga K d.nm) && (mroB K (He.ga K d.nm) ([.ref (He.ga K d.nm), .ref (He.ga K bS)] ++ vTail) && (oneB K file d && decide (PySem.W.exmOne K (.ref (He.ga K d.nm)) (.ref (He.ga K bS)) = some true))))
/-! ### defs by their addresses -/
structure DQ where
  adr : PySem.W.Frag → Addr
  name : Str
  qual : Str
  st : Stmt
def fObs (K : PySem.W.Frag) (a : Addr) : He.FnV := match K.lookup a with
  | some ⟨_, _, .func fd, _⟩ => some (fd.name, fd.qualname, fd.params, fd.body, fd.scope, fd.globals, fd.closure, fd.defaults, fd.builtins)
  | _ => none
def DQ.val (d : DQ) : He.FnV := some (d.name, d.qual, defArgs d.st, .stmts (defBody d.st), defScope d.st, mainGlobals, [], .none, builtinsNs)
def cdq (K : PySem.W.Frag) (a : Addr) : Addr := match K.lookup a with
  | some ⟨_, _, .func fd, _⟩ => (match fd.code with
    | .ref c => c
    | _ => 0)
  | _ => 0
def isF (K : PySem.W.Frag) (a : Addr) : Bool := match K.lookup a with
  | some ⟨_, _, .func fd, _⟩ => (match fd.code with
    | .ref _ => true
    | _ => false)
  | _ => false
def DQ.ok (K : PySem.W.Frag) (d : DQ) : Bool := PySem.W.codeIn K (.ref (cdq K (d.adr K))) d.qual && (PySem.W.keepIn K (.ref (d.adr K)) && isF K (d.adr K))
/-! ### the class -/
abbrev pC : Str := "Pattern"
def gtr (K : PySem.W.Frag) (x : Str) : Addr := match PySem.W.recIn K (He.ma K (He.ga K pC) x) "property" with
  | some (.ref g :: _) => g
  | _ => 0
def recB (K : PySem.W.Frag) (x : Str) : Bool := match PySem.W.recIn K (He.ma K (He.ga K pC) x) "property" with
  | some (.ref _ :: _) => true
  | _ => false
def propB (K : PySem.W.Frag) (x : Str) : Bool :=
  He.eqO (PySem.W.findIn K (.ref (He.ga K pC)) x) (some (some (.ref (He.ma K (He.ga K pC) x)))) && (He.eqO (PySem.W.specialIn K (.ref (He.ma K (He.ga K pC) x)) "__get__") (some (some (.builtin "property.__get__"))) &&
  (decide (PySem.W.takesIn K (.ref (He.ma K (He.ga K pC) x)) = some true) && recB K x))
def patB (K : PySem.W.Frag) (C : Addr) : Bool :=
  He.eqO (PySem.W.findIn K (.ref C) "__class__") (some (some (.builtin "object.__class__"))) && (decide (PySem.W.mroIn K C (.type "object") = some true) && (decide (PySem.W.kitOne K (.ref C) (.ref C) = some true) &&
  (decide (PySem.W.kitOne K (.ref C) (.type "list") = some false) && (decide (PySem.W.kitOne K (.ref C) (.type "tuple") = some false) && (decide (PySem.W.kitOne K (.type "dict") (.ref C) = some false) &&
  (He.eqO (PySem.W.findIn K (.ref C) "__eq__") (some (some (.ref (He.ma K C "__eq__")))) && (PySem.W.isFn K (.ref (He.ma K C "__eq__")) && (He.eqO (PySem.W.findIn K (.ref C) "__ne__") (some (some (.builtin "object.__ne__"))) &&
  (PySem.W.notFirst K C (.ref C) && PySem.W.notFirst K C (.type "dict"))))))))))
/-! ### tables -/
def tbq (K : PySem.W.Frag) (x : Str) : Addr := He.tabOf K (cdq K (He.ga K x))
def TN : List Str := ["_law_rows_right", "law"]
def tabK (K : PySem.W.Frag) : Bool := (TN.all fun x => PySem.W.codeHdIn K (cdq K (He.ga K x)) (tbq K x) && (K.lookup (tbq K x)).isNone) && !decide (tbq K "_law_rows_right" = tbq K "law")
def tabG (g : Addr → Option Obj) (K : PySem.W.Frag) : Bool := TN.all fun x => match g (tbq K x) with
  | some o => He.emptyTab o
  | none => false
/-! ### all of it -/
def MD : List (Str × Nat) := [("is_number", 6), ("is_within", 7), ("is_name", 8), ("is_list", 9), ("is_tuple_of", 10), ("is_dict_of_names", 11), ("is_key_of", 12), ("is_row", 13), ("checked_rows", 14), ("are_states", 16), ("are_moves", 17), ("are_good", 18),
  ("_law_begun", 21), ("_law_mixed", 22), ("_law_take", 23), ("_law_pick", 24), ("_law_shuffled", 25), ("_law_caught", 26), ("_law_titles", 27), ("_law_pattern", 28), ("_law_rows", 29), ("_law_fits", 30), ("_law_is_state", 31), ("_law_is_title", 32), ("_law_due", 33), ("_law_spoilt", 34), ("_law_rows_right", 35), ("law", 36)]
def mdD (p : Str × Nat) : DQ := ⟨fun K => He.ga K p.1, p.1, p.1, tS p.2⟩
def meD (x q : Str) (j : Nat) : DQ := ⟨fun K => He.ma K (He.ga K pC) x, x, q, inClass (tS 19) j⟩
def prD (x q : Str) (j : Nat) : DQ := ⟨fun K => gtr K x, x, q, inClass (tS 19) j⟩
def CD : List DQ := [meD "__init__" "Pattern.__init__" 0, meD "__eq__" "Pattern.__eq__" 1, prD "steps" "Pattern.steps" 2, prD "good" "Pattern.good" 3, prD "states" "Pattern.states" 4, prD "kinds" "Pattern.kinds" 5, meD "fits" "Pattern.fits" 6, meD "fits_along" "Pattern.fits_along" 7]
def fq : List DQ := MD.map mdD ++ CD
def fa : List He.Fa := ([.free "super", .free "isinstance", .free "int", .free "bool", .free "str", .free "list", .free "tuple", .free "dict", .free "len", .free "all", .free "max", .free "min", .free "sorted", .free "set", .free "range", .free "enumerate", .free "repr", .free "abs"] : List He.Fa) ++
  ([.str "LETTERS" "abcdefghijklmnopqrstuvwxyz", .glo pC, .glo bS, .cls pC, .noat pC "_steps", .noat pC "_states", .noat pC "_good", .mkr pC, .meth pC "fits", .meth pC "fits_along"] : List He.Fa)
def chk (file : Str) (K : PySem.W.Frag) : Bool :=
  genB K && ((basB K (He.ga K bS) && mroB K (He.ga K bS) ([.ref (He.ga K bS)] ++ vTail)) && (ED.all (errB K file) && (patB K (He.ga K pC) && ((["steps", "good", "states", "kinds"] : List Str).all (propB K) && (tabK K &&
  (fa.all (fun f => f.ok K) && (MD.all (fun p => (He.Fa.glo p.1).ok K) && fq.all (fun d => d.ok K))))))))
abbrev AlK : Type := Bool × (List He.FnV × List FnI)
def obsK (file : Str) (g : Addr → Option Obj) (K : PySem.W.Frag) : AlK := (chk file K && tabG g K, fq.map (fun d => fObs K (d.adr K)), ED.map fun d => iObs K d.nm)
def valK : AlK := (true, fq.map DQ.val, ED.map ErrD.val)
/-- what an object of the top holds on to, as far as the looks go -/
def own (o : Obj) : List Addr := match o.data with
  | .cls cd => [cd.ns]
  | .func fd => He.refV fd.code ++ fd.closure.map (·.2)
  | .dict es _ => es.toList.flatMap fun e => He.refV e.val
  | .fields vs => (match o.cls with
    | .type n => if n == "property" then vs.toList.flatMap He.refV else []
    | _ => [])
  | _ => []
def lay (g : Addr → Option Obj) (as : List Addr) : List Addr := as.flatMap fun a => match g a with
  | some o => own o
  | none => []
def tops (g : Addr → Option Obj) : Nat → List Addr → List Addr
  | 0, as => as
  | n + 1, as => as ++ tops g n (lay g as)
def frK (g : Addr → Option Obj) : PySem.W.Frag := He.frG g ([mainGlobals, cStatics, sysModules] ++ tops g 4 (lay g [mainGlobals]))
/-- what the end leans on -/
structure SaysK (file : Str) (h : Heap) (K : PySem.W.Frag) : Prop where
  ck : chk file K = true
  fs : fq.map (fun d => fObs K (d.adr K)) = fq.map DQ.val
  is : ED.map (fun d => iObs K d.nm) = ED.map ErrD.val
  tb : ∀ x ∈ TN, h.get? (tbq K x) = some { cls := .none, data := .fields #[] }
theorem says_of {file : Str} {h : Heap} {K : PySem.W.Frag} (e : obsK file h.get? K = valK) : SaysK file h K := by
  have e1 : (chk file K && tabG h.get? K) = true := congrArg (fun z : AlK => z.1) e
  obtain ⟨c1, c2⟩ := He.ba e1
  refine ⟨c1, congrArg (fun z : AlK => z.2.1) e, congrArg (fun z : AlK => z.2.2) e, fun x hx => ?_⟩
  have z := List.all_eq_true.mp c2 x hx
  cases q : h.get? (tbq K x) with
  | none =>
    rw [q] at z
    cases z
  | some o =>
    rw [q] at z
    rw [He.emptyTab_eq z]
def hookK (file : Str) : PySem.W.Hook where
  α := AlK
  obs := fun s => obsK file s.heap.get? (frK s.heap.get?)
  val := fun _ => valK
  says := fun _ h => ∃ K : PySem.W.Frag, K.In h ∧ SaysK file h K
  of := fun _ _ e => ⟨_, He.frG_in, says_of e⟩
  keeps := fun _ _ _ ⟨K, hK, c⟩ k => ⟨K, PySem.W.Frag.In.keeps hK k, ⟨c.ck, c.fs, c.is, fun x hx => k _ _ (c.tb x hx)⟩⟩
theorem obsK_eq {file : Str} {g : Addr → Option Obj} {s : Shared} (h : ∀ a, g a = s.heap.get? a) : obsK file g (frK g) = (hookK file).obs s := by
  have e : g = s.heap.get? := funext h
  rw [e] <;> rfl
def loose : List Str :=
  (["StillError", "BadPattern", "BadRows", "LETTERS", "is_number", "is_within", "is_name", "is_list", "is_tuple_of", "is_dict_of_names"] : List Str) ++
  (["is_key_of", "is_row", "checked_rows", "are_states", "are_moves", "are_good", "Pattern", "_law_begun", "_law_mixed", "_law_take"] : List Str) ++
  (["_law_pick", "_law_shuffled", "_law_caught", "_law_titles", "_law_pattern", "_law_rows", "_law_fits", "_law_is_state", "_law_is_title", "_law_due"] : List Str) ++
  (["_law_spoilt", "_law_rows_right"] : List Str)
abbrev RW : PySem.W.OpenLaw := PySem.Challenge.rw_stillknown_k02_patterns_made_and_fitted
abbrev R : PySem.W.OpenRow := PySem.W.OpenLaw.row RW
abbrev hk : PySem.W.Hook := hookK R.prog.main.file
def ob (s : PySem.W.SharedT) : AlK := obsK R.prog.main.file (HandSHeadRun.getT s) (frK (HandSHeadRun.getT s))
theorem ob_eq (s : PySem.W.SharedT) : ob s = hk.obs s.abs := obsK_eq (HandSHeadRun.getT_eq s)
theorem run (w : World) : HandSHeadRun.RunEq R (PySem.W.view R.prog [36]) hk ob 6000 loose w := by
  intro os
  kernel_rfl
end Hk
-- part Ex
set_option maxHeartbeats 4000000
/-! Errors of the package as values: made with their own __init__, which says super().__init__(text) and keeps one attribute. -/
namespace Err
open PySem PySem.Spec PyProof.Rows L2 NdefX
/-- what the top has written of an error class with an __init__ -/
structure Made (P : Program) (K : PySem.W.Frag) (C fI cc cd : Addr) (st : Stmt) (qual p : Str) : Prop where
  T : OexC K C
  iC : PySem.W.findIn K (.ref C) "__init__" = some (some (.ref fI))
  tI : PySem.W.typeIn K (.ref fI) = some (.type "function")
  fn : ∃ oc od kV doc pm an ct osl, K.lookup fI = some ⟨oc, od, .func (PySem.W.fnX "__init__" qual (defArgs st) (defBody st) (defScope st) [("__class__", cc)] .none kV doc pm an (.ref cd) ct), osl⟩
  code : PySem.W.codeIn K (.ref cd) qual = true
  file : ∃ c1 c2 vs c3 file tf, K.lookup cd = some ⟨c1, c2, .fields vs, c3⟩ ∧ vs[2]? = some (.str file tf) ∧ ((P.main.file : Str) == file) = true
  cell : ∃ c1 c2 c3, K.lookup cc = some ⟨c1, c2, .cell (some (.ref C)), c3⟩
  sup : PySem.W.ks_superIn K C C "__init__" = some (some (.builtin "ValueError.__init__"))
  any : PySem.W.nsIn K cStatics "thirdparty.any" = some none
  own : PySem.W.mroIn K C (.ref C) = some true
  subV : PySem.W.subIn K (.ref C) (.type "ValueError") = some true
  noA : PySem.W.findIn K (.ref C) p = some none
  top : (P.main.scope.names.lookup ("super" : Str)).isSome = false
section
variable {X : Cx} {C fI cc cd e : Addr} {st : Stmt} {qual p msg : Str} {pins : List (Addr × Obj)} {σ : L2.St} {H : Hp} {s : Shared} {q1 q2 q3 q4 q5 q6 : Pos} {body : List Stmt}
/-- the evaluation of super().__init__(text), as the positions let it be -/
def SupEv (q1 q2 q3 q4 q5 : Pos) (msg : Str) (pl : Sem Bool) (env : Env) : Prop :=
  eval (.Call (.Attribute (.Call (.Name "super" q1) [] [] q2) "__init__" q3) [.Constant (.str msg) 0 q4] [] q5) env = (do
    let ov ← attributeBase (.Call (.Name "super" q1) [] [] q2) "__init__" env (eval (.Call (.Name "super" q1) [] [] q2) env)
    standAt q3.atName
    let (f, first) ← holding [ov] (getMethod ov "__init__" pl)
    callWith q5 f first (backTo q5 (starEach [.Constant (.str msg) 0 q4] env)) [])
theorem super_at {pl : Sem Bool} (hev : SupEv q1 q2 q3 q4 q5 msg pl X.env) (M : Made X.prog X.K C fI cc cd st qual p) (I : Inv X pins σ H s) (hfu : X.env.func = some fI) (hco : X.env.code = .ref cd) (hks : Gl X "super") (hkc : X.env.kindOf "__class__" = some .free) (hcl : X.env.cells.lookup ("__class__" : Str) = some cc)
    (hN : X.N[0]? = some ("self" : Str)) (hka : X.env.kindOf "self" = some .local) (hp : ((defArgs st).posonlyargs ++ (defArgs st).args).head?.map (·.arg) = some ("self" : Str)) (ms : X.mg "super" = none)
    (hs0 : σ[0]? = some (some (.ref e))) (he : H e = some (exo e C none)) :
    PySem.wpAt (model X.prog X.w) X.A (.func body X.env) (exec (.Expr (.Call (.Attribute (.Call (.Name "super" q1) [] [] q2) "__init__" q3) [.Constant (.str msg) 0 q4] [] q5) q6) X.env)
      (fun fl s' => fl = .next ∧ Inv X pins σ H s') X.xe s := by
  obtain ⟨oc, od, kV, doc, pm, an, ct, osl, lk⟩ := M.fn
  obtain ⟨c1, c2, vs, c3, file, tf, lkc, hvs, hfile⟩ := M.file
  obtain ⟨d1, d2, d3, lcc⟩ := M.cell
  obtain ⟨ar, har, hara⟩ : ∃ ar, ((defArgs st).posonlyargs ++ (defArgs st).args).head? = some ar ∧ ar.arg = ("self" : Str) := by
    cases hq : ((defArgs st).posonlyargs ++ (defArgs st).args).head? with
    | none => rw [hq] at hp; cases hp
    | some ar => rw [hq] at hp; exact ⟨ar, rfl, Option.some.inj hp⟩
  obtain ⟨m, hns, hl⟩ := I.loc
  obtain ⟨u, ru, lu⟩ := hl 0 "self" _ hN hs0 (.inl hka)
  obtain rfl : u = Value.ref e := ru
  have hv : m ("self" : Str) = some (.ref e) := by
    rcases lu with ⟨_, z⟩ | ⟨z, _⟩
    · exact z
    · rcases z with z | z
      · rw [hka] at z; cases z
      · rw [hka] at z; cases z
  obtain ⟨t1, ho⟩ := exo_at I.hok he
  have KX := I.kIn
  obtain ⟨nm, q, N, bs, bm, sn, sub, ab, col, dd, k0, k1, k2, k3, k5, hC, hbm⟩ := M.T.cls
  refine ks_wpAt_Expr_any (ks_wpAt_MethodCall ?_ hev) I.quiet rfl
  refine ks_wpAt_super_base hks hkc rfl hfu (KX _ _ lk) rfl har hco (KX _ _ lkc) rfl hvs hfile M.top ?_
  obtain ⟨mb, hb1, hb2⟩ := I.mod.blt
  refine PySem.W.ks_loadName_global I.ok.kind hks (Calls.loadGlobal_builtin (by rw [I.ok.glob]; exact I.mod.glob.keeps I.bk) ms (by rw [I.ok.blt]; exact hb1.keeps I.bk) ((hb2 _ (by decide)).trans PyProof.Rows.Boot.«super») ⟨rfl, ?_⟩)
  refine wpAny_loadName_free I.ok.kind hkc hcl ⟨_, KX _ _ lcc, rfl⟩ ?_
  refine wpAny_loadName_local I.ok.kind (by rw [hara]; exact hka) hns (by rw [hara]; exact hv) ?_
  obtain ⟨hp1, g, dr, tk, os⟩ := s
  refine ks_wpAny_isType_cls (KX _ _ hC) rfl ⟨rfl, ?_⟩
  refine ks_wpAny_call_super (KX _ _ hC) rfl ho rfl (fun _ z => nomatch z) (PySem.W.looks_mroIn KX M.own) (fun h' es k => ?_)
  have I1 : Inv X pins σ H ⟨h', g, dr, tk, os⟩ := I.kept k
  have ho1 := k _ _ ho
  have In1 : PySem.W.InstAt h' e _ C none := ⟨ho1, rfl, rfl, trivial⟩
  have hm := M.sup
  unfold PySem.W.ks_superIn at hm
  cases hc : PySem.W.clsIn X.K C with
  | none => rw [hc] at hm; cases hm
  | some cd' =>
    rw [hc] at hm
    have hI : PySem.W.Looks (model X.prog X.w) h' (isInstance (.ref e) (.type "ValueError")) true := In1.type.andThen (PySem.W.looks_subIn I1.kIn M.subV)
    refine PySem.W.kxs_getMethod PySem.W.kxs_ValueError es (PySem.W.looks_opaque I1.kIn M.any) (l₀ := cd'.mro) (fun A Q E s k q => wpAny_bind ((PySem.W.looks_clsIn I1.kIn hc) A _ E s k (wpAny_pure q))) rfl I1.kIn hm hI (PySem.W.ks_ne I1.kIn In1 hc) rfl ?_
    have k2 : ∀ b o, h'.get? b = some o → (h'.push (PySem.W.kxs_mw "ValueError.__init__" e)).get? b = some o := fun b o z => Heap.get?_push_of_some _ z
    have I2 : Inv X pins σ H ⟨h'.push (PySem.W.kxs_mw "ValueError.__init__" e), g, dr, tk + 1, os⟩ := I1.kept (t' := tk + 1) k2
    have hu2 : (h'.push (PySem.W.kxs_mw "ValueError.__init__" e)).get? h'.objs.size = some (PySem.W.kxs_mw "ValueError.__init__" e) := Heap.get?_push_at rfl rfl
    have ho2 := k2 _ _ ho1
    generalize h'.push (PySem.W.kxs_mw "ValueError.__init__" e) = h2 at I2 hu2 ho2 ⊢
    refine PySem.W.kxs_callWith (i := "ValueError.__init__") (x := e) rfl (Calls.evalArgs_plain (Calls.spliced_cons (@wpAny_Constant_str _ _ _ _ X.env msg 0 q4 _ ?_)))
    refine Calls.spliced_nil ⟨hu2, ?_⟩
    have I3 : Inv X pins σ H ⟨h2, g, dr, tk + 1 + 1, os⟩ := I2.tok (tk + 1 + 1)
    have FB := F.excBase_ValueError
    refine wpAny_call (codeAny_of_tree ?_)
    show wpAny _ X.A.in1 (callAny (.ref h'.objs.size) ⟨[.str msg (tk + 1)], []⟩) _ _ _
    simp only [callAny]
    refine wpAny_bind (wpAny_load hu2 ?_)
    simp only [PySem.W.kxs_mw, show (Value.type "method-wrapper" == Value.type "method" || Value.type "method-wrapper" == Value.type "builtin_function_or_method" || Value.type "method-wrapper" == Value.type "method-wrapper") = true by decide, if_true]
    refine PySem.W.KFB.if_so (by decide) ?_
    refine wpAny_bind (PySem.W.check_bound_init FB.toExcCallFacts (I3.kIn _ _ hC) ho2 rfl ?_)
    refine wpAny_bind (wpAny_pure (wpAny_pure ?_))
    refine ⟨plainId_quiet FB.init.plain _, codeAny_builtin FB.initEntry ?_⟩
    refine PySem.W.exc_init_tree (cls := .ref C) (t0 := t1) (dv := none) (c2 := .none) (c3 := .none) (b4 := .bool false) ho2 (by show 1 ≤ sizeLine; decide) (fun h3 k3 e3 _ => ?_)
    have J := I3.write (t' := tk + 1 + 1) (x := e) (e := e) (o := exo e C none) (by rw [he]; exact True.intro) (.inl rfl) k3 ⟨_, e3⟩ (exo_ok e3)
    have eu : upd H e (exo e C none) = H := by
      funext b
      by_cases hb : b = e
      · rw [hb, upd_same, he]
      · rw [upd_ne hb]
    rw [eu] at J
    exact ⟨trivial, J⟩
/-- the function's data, as a nested def's -/
abbrev nf (st : Stmt) (qual : Str) (cc cd : Addr) : NF := ⟨"__init__", qual, defArgs st, defBody st, defScope st, [("__class__", cc)], cd⟩
theorem init_code {P : Program} {w : World} {K : PySem.W.Frag} {mg : Str → Option Value} {base : Heap} {A : Around} {outer : List Env} {s : Shared} {H : Hp} {Q : VK} {E : XK} {k : Nat} {args : Args} {u : Value} {x : V} {q7 q8 q9 q10 : Pos} {pl : Sem Bool}
    (M : Made P K C fI cc cd st qual p) (S : NScope ["self", p, "__class__"] ["self", p] ["__class__"] (defScope st))
    (hb : defBody st = [.Expr (.Call (.Attribute (.Call (.Name "super" q1) [] [] q2) "__init__" q3) [.Constant (.str msg) 0 q4] [] q5) q6, .Assign [.Attribute (.Name "self" q7) p q8] (.Name p q9) q10])
    (hev : ∀ env, SupEv q1 q2 q3 q4 q5 msg pl env) (hks : (defScope st).names.lookup ("super" : Str) = some .globalImplicit) (hpa : ((defArgs st).posonlyargs ++ (defArgs st).args).head?.map (·.arg) = some ("self" : Str))
    (hpd : (p == ("__debug__" : Str)) = false) (hpc : (p == ("__classdict__" : Str)) = false) (hsw : ∀ env, swapsWith (.Name p q9) (some (.Attribute (.Name "self" q7) p q8)) q10.line env = pure false)
    (ms : mg "super" = none) (hr : Room k A) (e0 : Env0 P w K mg base A outer s H) (he : H e = some (exo e C none)) (ru : L2.RelV x u)
    (hbind : ∀ kV doc pm an ct, BindsTo s (PySem.W.fnX "__init__" qual (defArgs st) (defBody st) (defScope st) [("__class__", cc)] .none kV doc pm an (.ref cd) ct) args [("self", .ref e), (p, u)])
    (hq : ∀ d, H d = none → d ≠ e → Q .non (upd (upd H d (exd d [(p, x)])) e (exo e C (some d)))) :
    codeAny (model P w) A (.call (.ref fI) args) (CR CX0 outer P w H s Q E) s := by
  obtain ⟨oc, od, kV, doc, pm, an, ct, osl, lk⟩ := M.fn
  obtain ⟨d1, d2, d3, lcc⟩ := M.cell
  have KX : K.In s.heap := e0.mod.kin.keeps fun b o z => (e0.bs b o z).1
  have lim : s.heap.NoLimit := e0.mod.nolimit.keeps fun b o z => (e0.bs b o z).1
  refine ks_codeAny_call_defAt (body := defBody st) (binds := [("self", .ref e), (p, u)]) hr.depth (KX _ _ lk) rfl lim (PySem.W.codeRec_of KX M.code) rfl (hbind _ _ _ _ _) S.nocell ?_ (fun h1 hns kp => ?_) S.co S.gen S.kind
  · intro y hy
    rcases List.mem_cons.mp hy with rfl | hy
    · exact S.par _ (by simp)
    · rcases List.mem_cons.mp hy with rfl | hy
      · exact S.par _ (by simp)
      · cases hy
  have I : Inv (ncx CX0 P w K mg base ["self", p, "__class__"] (nf st qual cc cd) fI A outer s H E) [] (startF ["self", p, "__class__"] [.ref e, x] [some (.ref C)]) H { s with heap := h1, toks := s.toks + 2 } := by
    refine inv_startN (us := [.ref e, u]) S hr.hd e0 rfl (.cons rfl (.cons ru .nil)) ?_ hns kp
    have hcc := e0.mod.kin _ _ lcc
    have one : ∀ (y : Str) (c : Addr), ([("__class__", cc)] : List (Str × Addr)).lookup y = some c → y = "__class__" ∧ c = cc := fun y c z => by
      rw [List.lookup_cons] at z
      by_cases hy : (y == ("__class__" : Str)) = true
      · rw [hy] at z
        exact ⟨eq_of_beq hy, (Option.some.inj z).symm⟩
      · rw [Bool.not_eq_true] at hy
        rw [hy] at z
        cases z
    refine ⟨rfl, fun y c z => ?_, fun a b c z1 z2 => (one _ _ z1).1.trans (one _ _ z2).1.symm, fun i y z => ?_⟩
    · obtain ⟨_, rfl⟩ := one _ _ z
      exact ⟨(e0.bs _ _ hcc).2, _, _, KX _ _ lcc, rfl⟩
    · rcases i with _ | i
      · obtain rfl : ("__class__" : Str) = y := Option.some.inj z
        refine ⟨cc, by rw [List.lookup_cons]; simp, fun v hv => ?_⟩
        obtain rfl : V.ref C = v := Option.some.inj (Option.some.inj hv)
        exact ⟨.ref C, rfl, _, KX _ _ lcc, rfl⟩
      · simp at z
  have kself : (defScope st).names.lookup ("self" : Str) = some .local := S.par _ (by simp)
  have kp' : (defScope st).names.lookup p = some .local := S.par _ (by simp)
  have kcl : (defScope st).names.lookup ("__class__" : Str) = some .free := S.frk _ (by simp)
  show PySem.wpAt (model P w) (ncx CX0 P w K mg base ["self", p, "__class__"] (nf st qual cc cd) fI A outer s H E).A (.func (defBody st) (ncx CX0 P w K mg base ["self", p, "__class__"] (nf st qual cc cd) fI A outer s H E).env) (execs (defBody st) (ncx CX0 P w K mg base ["self", p, "__class__"] (nf st qual cc cd) fI A outer s H E).env) _ _ { s with heap := h1, toks := s.toks + 2 }
  rw [hb]
  refine ks_wpAt_execs_cons (ks_wpAt_mono (super_at (X := ncx CX0 P w K mg base ["self", p, "__class__"] (nf st qual cc cd) fI A outer s H E) (hev _) M I rfl rfl hks kcl (by show List.lookup ("__class__" : Str) [(("__class__" : Str), cc)] = some cc; rw [List.lookup_cons]; simp) rfl kself hpa ms rfl he) (fun fl s' hJ => ?_) fun _ _ z => z)
  obtain ⟨rfl, J⟩ := hJ
  have ht : PSs (ncx CX0 P w K mg base ["self", p, "__class__"] (nf st qual cc cd) fI A outer s H E) [.Assign [.Attribute (.Name "self" q7) p q8] (.Name p q9) q10] _ :=
    pss_one (ps_ost (pe_var (i := 0) rfl (.inl kself)) (pe_var (i := 1) rfl (.inl kp') hpd hpc) (hsw _))
  refine wpAt_of_wpAny (wpAny_mono (ht.run [] s' _ H { nx := fun _ H' => Q .non H', rt := Q } J ?_) (fun fl s'' hs => ?_) fun _ _ z => z)
  · refine ⟨x, rfl, .ref e, rfl, e, C, rfl, M.T, M.noA, .inl ⟨he, fun dx nd ne => hq dx nd ne⟩⟩
  · cases fl with
    | next =>
      obtain ⟨σ', H', J', q⟩ := hs
      exact ⟨.non, H', J'.os, J'.bare, J'.base, J'.hok, rfl, q⟩
    | ret v =>
      obtain ⟨v', σ', H', J', rv, q⟩ := hs
      exact ⟨v', H', J'.os, J'.bare, J'.base, J'.hok, rv, q⟩
    | brk =>
      obtain ⟨_, _, _, q⟩ := hs
      exact False.elim q
    | cont =>
      obtain ⟨_, _, _, q⟩ := hs
      exact False.elim q
end
end Err
-- part ExK
set_option maxHeartbeats 4000000
namespace Err
open PySem PySem.Spec PyProof.Rows L2 NdefX PySem.HandSPX
section
variable {M : Model} {A : Around} {E : Value → Shared → Prop} {h : Heap} {g : Array GenState} {d : Drawn} {t : Nat} {os : OsState} {nm q : Str} {C N : Addr}
  {bs bm bmB : List Value} {hdct : Bool} {sn : List Str} {sub : List Value} {ab : Bool} {col : Option Bool} {dd : Option Addr} {k0 k1 k2 k3 k5 : Option Value} {B newId initId : String}
  {kw : List (Str × Value)}
theorem newK_check (FB : ExcBaseFacts B newId initId bmB) (hT : ∀ X : String, bm.contains (.type X) = bmB.contains (.type X)) {Q : Unit → Shared → Prop}
    (hC : h.get? C = some (excClassObj nm q C N bs bm hdct sn sub ab col dd k0 k1 k2 k3 k5 newId))
    (hq : Q () ⟨h, g, d, t, os⟩) : wpAny M A (checkBuiltinCall newId ⟨[.ref C], kw⟩) Q E ⟨h, g, d, t, os⟩ := by
  have inB : (Value.ref C :: bm).contains (.type B) = true := by
    rw [List.contains_cons, hT, FB.hasB, Bool.or_true]
  have star := FB.noStar
  simp only [checkBuiltinCall, FB.newKind, FB.newSplit, FB.newRow]
  repeat (first
    | refine wpAny_loadPart_at hC ?_
    | (refine wpAny_isSubtype_exc hC ?_
       rw [inB])
    | refine wpAny_staticBase_exc hC ?_
    | refine wpAny_madeBy_exc hC ?_
    | simp only [bne_self_eq_false, Bool.false_eq_true, if_false]
    | wp_step)
  exact hq
end
section
variable {prog : Program} {w : World} {A : Around} {E : Value → Shared → Prop} {R : Result → Shared → Prop} {h : Heap} {g : Array GenState} {d : Drawn} {t : Nat} {os : OsState}
  {nm q : Str} {C N : Addr} {bs bm bmB : List Value} {hdct : Bool} {sn : List Str} {sub : List Value} {ab : Bool} {col : Option Bool} {dd : Option Addr} {k0 k1 k2 k3 k5 : Option Value}
  {B newId initId : String} {kw : List (Str × Value)}
theorem newK_code (FB : ExcBaseFacts B newId initId bmB) (hT : ∀ X : String, bm.contains (.type X) = bmB.contains (.type X))
    (hC : h.get? C = some (excClassObj nm q C N bs bm hdct sn sub ab col dd k0 k1 k2 k3 k5 newId))
    (hq : R (.ok (.ret (.ref (h.objs.size + 1)))) ⟨(h.push (PySem.W.kdv_tup [])).push (excO C h.objs.size), g, d, t, os⟩) :
    codeAny (model prog w) A (.builtin newId ⟨[.ref C], kw⟩) R ⟨h, g, d, t, os⟩ := by
  have ends := FB.ends
  have inB : (Value.ref C :: bm).contains (.type B) = true := by
    rw [List.contains_cons, hT, FB.hasB, Bool.or_true]
  have inA : (Value.ref C :: bm).contains (.type "AttributeError") = false := by
    rw [List.contains_cons, hT, FB.noAttr]
    rfl
  have inN : (Value.ref C :: bm).contains (.type "NameError") = false := by
    rw [List.contains_cons, hT, FB.noName]
    rfl
  refine codeAny_builtinAt FB.entry ?_
  unfold Builtin.«BaseException.__new__»
  refine PySem.wpAt_bind ?_
  show PySem.wpAt _ _ _ (stack >>= _) _ _ _
  refine PySem.wpAt_bind (PySem.wpAt_stack fun _ _ => PySem.wpAt_of_wpAny ?_)
  wp_walk
  refine PySem.wpAt_of_wpAny ?_
  rw [FB.owner]
  repeat (first
    | with_reducible refine wpAny_madeHere_exc FB.canon hC ?_
    | with_reducible refine wpAny_loadPart_at hC ?_
    | (with_reducible refine wpAny_isSubtype_exc hC ?_
       first | rw [inB] | rw [inA] | rw [inN])
    | wp_step)
  show R _ _
  rw [Heap.size_push]
  exact hq
theorem tyK_call (FB : ExcBaseFacts B newId initId bmB) (hT : ∀ X : String, bm.contains (.type X) = bmB.contains (.type X)) {fI : Addr} {Q : Fin → Shared → Prop}
    (hC : h.get? C = some (excClassObj nm q C N bs bm hdct sn sub ab col dd k0 k1 k2 k3 k5 newId))
    (hi : W.Looks (model prog w) h (typeLookup (.ref C) "__init__") (some (.ref fI))) (hb : ∀ self, W.Looks (model prog w) h (bindSpecial (.ref fI) self) (.ref fI, [self]))
    (hq : codeAny (model prog w) A (.call (.ref fI) ⟨[.ref (h.objs.size + 1)], kw⟩)
      (fun r s' => match r with | .ok (.ret v) => v = .none ∧ Q (.done (.ret (.ref (h.objs.size + 1)))) s' | .ok _ => False | .error e => E e s')
      ⟨(h.push (PySem.W.kdv_tup [])).push (excO C h.objs.size), g, d, t, os⟩) :
    wpAny (model prog w) A (Builtin.«type.__call__» ⟨[.ref C], kw⟩) Q E ⟨h, g, d, t, os⟩ := by
  repeat (first
    | with_reducible refine wpAny_loadPart_at hC ?_
    | with_reducible refine wpAny_madeBy_exc hC ?_
    | wp_step)
  refine codeAny_call_builtin_code (Code.quiet_builtin _ FB.quiet) (newK_check FB hT hC ?_)
  refine newK_code FB hT hC ?_
  show wpAny _ _ _ _ _ _
  have kk : ∀ b o, h.get? b = some o → ((h.push (PySem.W.kdv_tup [])).push (excO C h.objs.size)).get? b = some o := fun b o z => Heap.get?_push_of_some _ (Heap.get?_push_of_some _ z)
  have hC2 := kk _ _ hC
  have he2 : ((h.push (PySem.W.kdv_tup [])).push (excO C h.objs.size)).get? (h.objs.size + 1) = some (excO C h.objs.size) := by heap_get
  have inC : (Value.ref C :: bm).contains (.ref C) = true := by simp
  have i2 := hi.keeps kk
  have b2 := (hb (.ref (h.objs.size + 1))).keeps kk
  unfold isInstance
  repeat (first
    | with_reducible refine wpAny_loadPart_at he2 ?_
    | (with_reducible refine wpAny_isSubtype_exc hC2 ?_
       rw [inC])
    | wp_step)
  show wpAny _ _ (typeLookup (.ref C) _) _ _ _
  refine i2.at ?_
  refine wpAny_holding (wpAny_bind (b2.at ?_))
  refine wpAny_bind (wpAny_call (codeAny_mono hq fun r s' z => ?_))
  rcases r with e | (v | _ | _ | _)
  · exact z
  · exact z.elim
  · exact z.elim
  · exact z.elim
  · obtain ⟨rfl, z⟩ := z
    first
      | exact wpAny_pure (wpAny_pure z)
      | (wp_walk; exact z)
theorem callK_own (FB : ExcBaseFacts B newId initId bmB) (hT : ∀ X : String, bm.contains (.type X) = bmB.contains (.type X)) {fI : Addr}
    (hC : h.get? C = some (excClassObj nm q C N bs bm hdct sn sub ab col dd k0 k1 k2 k3 k5 newId))
    (hi : W.Looks (model prog w) h (typeLookup (.ref C) "__init__") (some (.ref fI))) (hb : ∀ self, W.Looks (model prog w) h (bindSpecial (.ref fI) self) (.ref fI, [self]))
    (hq : codeAny (model prog w) (A.under (.builtin "type.__call__" ⟨[.ref C], kw⟩)) (.call (.ref fI) ⟨[.ref (h.objs.size + 1)], kw⟩) (W.InitBack (h.objs.size + 1) R)
      ⟨(h.push (PySem.W.kdv_tup [])).push (excO C h.objs.size), g, d, t, os⟩) :
    codeAny (model prog w) A (.call (.ref C) ⟨[], kw⟩) R ⟨h, g, d, t, os⟩ := by
  have f1 := tc_lookup
  have f2 := tc_bind (.ref C)
  have hTy : (⟨h, g, d, t, os⟩ : Shared).TypeIs (.ref C) "type" := ⟨_, hC, rfl⟩
  refine codeAny_of_tree ?_
  show wpAny _ _ (callAny (.ref C) _) _ _ _
  repeat (any_goals (first
    | assumption
    | with_reducible refine wpAny_loadPart_at hC ?_
    | wp_step))
  refine ⟨rfl, ?_⟩
  refine codeAny_call_builtin_at (Code.quiet_builtin _ (by decide +kernel)) entry_typeCall (wpAny_check_type_call_sub hC (tyK_call FB hT hC hi hb ?_))
  refine codeAny_mono hq fun r s' z => ?_
  rcases r with e | (v | _ | _ | _) <;> exact z
end
end Err
-- part ErrR
set_option maxHeartbeats 4000000
namespace Err
open PySem PySem.Spec PyProof.Rows L2 NdefX
/-- a class of errors that keeps one attribute: all that is asked of the text and of what the top has written -/
structure One (P : Program) (K : PySem.W.Frag) (C : Addr) (p : Str) : Prop where
  ex : ∃ (fI cc cd : Addr) (st : Stmt) (qual msg : Str) (q1 q2 q3 q4 q5 q6 q7 q8 q9 q10 : Pos) (pl : Sem Bool), Made P K C fI cc cd st qual p ∧
    NScope ["self", p, "__class__"] ["self", p] ["__class__"] (defScope st) ∧
    defBody st = [.Expr (.Call (.Attribute (.Call (.Name "super" q1) [] [] q2) "__init__" q3) [.Constant (.str msg) 0 q4] [] q5) q6, .Assign [.Attribute (.Name "self" q7) p q8] (.Name p q9) q10] ∧
    (∀ env, SupEv q1 q2 q3 q4 q5 msg pl env) ∧ (defScope st).names.lookup ("super" : Str) = some .globalImplicit ∧ ((defArgs st).posonlyargs ++ (defArgs st).args).head?.map (·.arg) = some ("self" : Str) ∧
    (p == ("__debug__" : Str)) = false ∧ (p == ("__classdict__" : Str)) = false ∧ (∀ env, swapsWith (.Name p q9) (some (.Attribute (.Name "self" q7) p q8)) q10.line env = pure false) ∧
    (∀ kV doc pm an ct e u, bindArgs (PySem.W.fnX "__init__" qual (defArgs st) (defBody st) (defScope st) [("__class__", cc)] .none kV doc pm an (.ref cd) ct) ⟨[e, u], []⟩ = pure [(("self" : Str), e), (p, u)]) ∧
    (∀ kV doc pm an ct e u, bindArgs (PySem.W.fnX "__init__" qual (defArgs st) (defBody st) (defScope st) [("__class__", cc)] .none kV doc pm an (.ref cd) ct) ⟨[e], [(p, u)]⟩ = pure [(("self" : Str), e), (p, u)])
/-- the reading: a new error a, with a dict d of its own -/
def tErr (C : Addr) (p : Str) (te : TE) : TE := fun σ H Q => te σ H fun v H1 => ∀ a d, H1 a = none → H1 d = none → d ≠ a → Q (.ref a) (upd (upd H1 d (exd d [(p, v)])) a (exo a C (some d)))
section
variable {X : Cx} {C : Addr} {p x : Str} {e : Expr} {te : TE} {cp pos : Pos}
theorem upd_swap (H : Hp) {a d : Addr} (o1 o2 o3 : HO) (h : d ≠ a) : upd (upd (upd H a o1) d o2) a o3 = upd (upd H d o2) a o3 := by
  funext b
  by_cases hb : b = a
  · rw [hb, upd_same, upd_same]
  · rw [upd_ne hb, upd_ne hb]
    by_cases hd : b = d
    · rw [hd, upd_same, upd_same]
    · rw [upd_ne hd, upd_ne hd, upd_ne hb]
theorem err_new {pins : List (Addr × Obj)} {σ : L2.St} {H : Hp} {s : Shared} {Q : VK} {u : Value} {v : V} (T : One X.prog X.K C p) (ms : X.mg "super" = none) (hr : Room 1 X.A) (I : Inv X pins σ H s) (ru : L2.RelV v u)
    (hq : ∀ a d, H a = none → H d = none → d ≠ a → Q (.ref a) (upd (upd H d (exd d [(p, v)])) a (exo a C (some d)))) (us : List Value) (kw : List (Str × Value)) (hus : (us = [u] ∧ kw = []) ∨ (us = [] ∧ kw = [(p, u)])) :
    wpAny (model X.prog X.w) X.A (call (.ref C) us kw) (EP X pins σ Q) X.xe s := by
  obtain ⟨fI, cc, cd, st, qual, msg, q1, q2, q3, q4, q5, q6, q7, q8, q9, q10, pl, M, S, hb, hev, hks, hpa, hpd, hpc, hsw, b1, b2⟩ := T.ex
  obtain ⟨nm, q, N, bs, bm, sn, sub, ab, col, dd, k0, k1, k2, k3, k5, hC, hbm⟩ := M.T.cls
  obtain ⟨hp, g, dr, tk, os⟩ := s
  have hsz : hp.objs.size ≤ hp.objs.size + 1 := Nat.le_succ _
  have hn : H (hp.objs.size + 1) = none := I.hok.fresh hsz
  have kk : ∀ vs b o, hp.get? b = some o → ((hp.push (PySem.W.kdv_tup vs)).push (PySem.HandSPX.excO C hp.objs.size)).get? b = some o := fun vs b o z => Heap.get?_push_of_some _ (Heap.get?_push_of_some _ z)
  have hget : ∀ vs, ((hp.push (PySem.W.kdv_tup vs)).push (PySem.HandSPX.excO C hp.objs.size)).get? (hp.objs.size + 1) = some (PySem.HandSPX.excO C hp.objs.size) := fun vs => by heap_get
  have I2 : ∀ vs, Inv X pins σ (upd H (hp.objs.size + 1) (exo (hp.objs.size + 1) C none)) ⟨(hp.push (PySem.W.kdv_tup vs)).push (PySem.HandSPX.excO C hp.objs.size), g, dr, tk, os⟩ := fun vs =>
    I.laid (t' := tk) (a := hp.objs.size + 1) (o := exo (hp.objs.size + 1) C none) (h' := (hp.push (PySem.W.kdv_tup vs)).push (PySem.HandSPX.excO C hp.objs.size)) (kk vs) hsz (exo_ok (hget vs))
  have hT := fun Y => PySem.HandSPX.refsVE_contains Y bm hbm
  have fin : ∀ (vs : List Value) (r : Result) (s' : Shared),
      CR CX0 X.stack X.prog X.w (upd H (hp.objs.size + 1) (exo (hp.objs.size + 1) C none)) ⟨(hp.push (PySem.W.kdv_tup vs)).push (PySem.HandSPX.excO C hp.objs.size), g, dr, tk, os⟩ (fun v H' => v = .non ∧ Q (.ref (hp.objs.size + 1)) H') (fun _ _ _ => False) r s' →
      PySem.W.InitBack (hp.objs.size + 1) (fun r s' => match r with | .ok (.ret v) => EP X pins σ Q v s' | .ok _ => False | .error e => X.xe e s') r s' := fun vs r s' hr => by
    cases r with
    | error er => exact False.elim hr
    | ok fl =>
      cases fl with
      | ret w' =>
        obtain ⟨v', H', J, rv, ev, q'⟩ := (I2 vs).after hr
        subst ev
        exact ⟨rv, .ref (hp.objs.size + 1), H', J, rfl, q'⟩
      | next => exact False.elim hr
      | brk => exact False.elim hr
      | cont => exact False.elim hr
  have last : ∀ d, upd H (hp.objs.size + 1) (exo (hp.objs.size + 1) C none) d = none → d ≠ hp.objs.size + 1 →
      V.non = V.non ∧ Q (.ref (hp.objs.size + 1)) (upd (upd (upd H (hp.objs.size + 1) (exo (hp.objs.size + 1) C none)) d (exd d [(p, v)])) (hp.objs.size + 1) (exo (hp.objs.size + 1) C (some d))) := fun d nd ne => by
    rw [upd_ne ne] at nd
    rw [upd_swap _ _ _ _ ne]
    exact ⟨rfl, hq _ d hn nd ne⟩
  rcases hus with ⟨rfl, rfl⟩ | ⟨rfl, rfl⟩
  · refine wpAny_call (PySem.HandSPX.call_own F.excBase_ValueError hT (I.kIn _ _ hC) (PySem.W.looks_findIn I.kIn M.iC) (fun self => PySem.W.bind_fn I.kIn self M.tI) (by show 1 ≤ sizeLine; decide)
      (codeAny_mono (init_code M S hb hev hks hpa hpd hpc hsw ms (hr.make C [u] []) ((I2 [u]).env0.make C [u] []) upd_same ru (fun kV doc pm an ct => .of_eq (b1 _ _ _ _ _ _ _)) last) fun r s' h => fin [u] r s' h))
  · refine wpAny_call (callK_own F.excBase_ValueError hT (I.kIn _ _ hC) (PySem.W.looks_findIn I.kIn M.iC) (fun self => PySem.W.bind_fn I.kIn self M.tI)
      (codeAny_mono (init_code M S hb hev hks hpa hpd hpc hsw ms (hr.make C [] [(p, u)]) ((I2 []).env0.make C [] [(p, u)]) upd_same ru (fun kV doc pm an ct => .of_eq (b2 _ _ _ _ _ _ _)) last) fun r s' h => fin [] r s' h))
/-- C(e) -/
theorem pe_err (T : One X.prog X.K C p) (ms : X.mg "super" = none) (hr : Room 1 X.A) (hg : Gl X x) (hm : X.mg x = some (.ref C)) (kC : PySem.W.keepIn X.K (.ref C) = true) (he : PE X e te)
    (hs : starEach [e] X.env = (false, eval e X.env) :: starEach [] X.env := by rfl) (hdb : (x == ("__debug__" : Str)) = false := by decide) : PE X (.Call (.Name x cp) [e] [] pos) (tErr C p te) := by
  refine ⟨fun pins s σ H Q I h => ?_⟩
  refine wpAny_Call_Name_kw (ld_glob I hg hm ?_ hdb)
  refine PySem.W.callWith_K (h₀ := X.base) I.ok.mod.kin kC ?_ hs (by rfl)
  rw [hs]
  show wpAny _ _ (spliced ((false, eval e X.env) :: backTo pos (starEach [] X.env))) _ _ s
  refine Calls.spliced_cons (thn (he.run pins s σ H _ I h) fun u s1 ⟨v, H1, I1, r1, q1⟩ => ?_)
  refine Calls.spliced_nil ⟨I1.kIn, ?_⟩
  exact err_new T ms hr I1 r1 q1 [u] [] (.inl ⟨rfl, rfl⟩)
end
end Err
-- part ErrV
set_option maxHeartbeats 4000000
namespace Err
open PySem PySem.Spec PyProof.Rows L2 NdefX
section
variable {X : Cx} {C : Addr} {p x : Str} {e : Expr} {te : TE} {cp kp pos : Pos}
/-- C(p=e) -/
theorem pe_errK (T : One X.prog X.K C p) (ms : X.mg "super" = none) (hr : Room 1 X.A) (hg : Gl X x) (hm : X.mg x = some (.ref C)) (kC : PySem.W.keepIn X.K (.ref C) = true) (he : PE X e te)
    (hall : (backToKw pos (keywordEach [⟨some p, e, kp⟩] X.env)).all (·.1.isSome) = true := by rfl) (hks : (backToKw pos (keywordEach [⟨some p, e, kp⟩] X.env)).filterMap (·.1) = [p] := by rfl)
    (hpl : ((backTo pos (starEach [] X.env)).any (·.1) || (backToKw pos (keywordEach [⟨some p, e, kp⟩] X.env)).any (·.1.isNone)) = false := by rfl)
    (hdb : (x == ("__debug__" : Str)) = false := by decide) : PE X (.Call (.Name x cp) [] [⟨some p, e, kp⟩] pos) (tErr C p te) := by
  refine ⟨fun pins s σ H Q I h => ?_⟩
  refine wpAny_Call_Name_kw (ld_glob I hg hm ?_ hdb)
  refine PySem.W.callWith_KW0 (h₀ := X.base) I.ok.mod.kin kC hall ?_ hpl
  refine thn ((pk_cons he pk_nil).run pos pins s σ H (fun vs H1 => match vs with | [v] => ∀ a d, H1 a = none → H1 d = none → d ≠ a → Q (.ref a) (upd (upd H1 d (exd d [(p, v)])) a (exo a C (some d))) | _ => False) I h) fun ws s1 ⟨zs, H1, I1, rz, q⟩ => ⟨I1.kIn, ?_⟩
  rw [hks]
  cases rz with
  | nil => exact False.elim q
  | cons r1 r2 =>
    cases r2 with
    | nil => exact err_new T ms hr I1 r1 q [] _ (.inr ⟨rfl, rfl⟩)
    | cons _ _ => exact False.elim q
/-- an error stands at a: with no dict, or with one of its own -/
def ExAt (H : Hp) (a C : Addr) : Prop := H a = some (ExO (.ref C) a) ∨ ∃ d fs, H a = some (exo a C (some d)) ∧ H d = some (exd d fs)
/-- what a class of errors must say so that isinstance asks rightly -/
structure Isi (K : PySem.W.Frag) (C : Addr) : Prop where
  cl : (PySem.W.clsIn K C).isSome = true
  ga : PySem.W.findIn K (.ref C) "__getattribute__" = some (some (.builtin "BaseException.__getattribute__"))
  gt : PySem.W.findIn K (.ref C) "__getattr__" = some none
  sb : PySem.W.subIn K (.ref C) (.type "BaseException") = some true
  ca : PySem.W.findIn K (.ref C) "__class__" = some (some (.builtin "object.__class__"))
  gs : PySem.W.specialIn K (.builtin "object.__class__") "__get__" = some (some (.builtin "getset_descriptor.__get__"))
  tk : PySem.W.takesIn K (.builtin "object.__class__") = some true
  ob : PySem.W.mroIn K C (.type "object") = some true
  hd : PySem.W.hasDictIn K C = true
theorem ExAt.inst {pins : List (Addr × Obj)} {σ : L2.St} {H : Hp} {s : Shared} {a : Addr} (I : Inv X pins σ H s) (h : ExAt H a C) : ∃ ox od, PySem.W.InstAt s.heap a ox C od := by
  rcases h with h | ⟨d, fs, h, hd⟩
  · obtain ⟨⟨oe, vs, e1, z, e2, _⟩, _, _⟩ := I.hok _ _ h
    refine ⟨oe, none, e1, z.1, ?_, ?_⟩
    · unfold PySem.W.notCls
      rw [e2]
    · rw [z.2]
      exact trivial
  · obtain ⟨t1, ho⟩ := exo_at I.hok h
    obtain ⟨mA, hns, hr⟩ := exd_at I.hok hd
    obtain ⟨od, es, ep, hod, _⟩ := hns
    exact ⟨_, some od, ho, rfl, rfl, hod⟩
def rIsx (K : PySem.W.Frag) : List V → Hp → VK → Prop := fun xs H Q => ∃ (a C : Addr) (c : V) (cv : Value) (b : Bool), xs = [.ref a, c] ∧ ExAt H a C ∧ Isi K C ∧ ClsV c cv ∧ PySem.W.kitOne K (.ref C) cv = some b ∧ Q (.bl b) H
theorem call_isx : CallR X (.builtin "isinstance") (rIsx X.K) := by
  intro pins s σ H xs us Q I r h
  obtain ⟨a, C, c, cv, b, rfl, hx, T, hcv, e, q⟩ := h
  obtain ⟨ox, od, J⟩ := hx.inst I
  cases r with
  | cons rx rr =>
    cases rr with
    | cons rt rr =>
      cases rr
      cases rx
      have ec := hcv.eq rt
      subst ec
      exact PySem.W.kia_one (PySem.W.kitx_exc T.cl T.ga T.gt T.sb T.ca T.gs T.tk T.ob) I.kIn J e (fun z => nomatch z) fun tk => ⟨.bl b, H, I.kept (t' := tk) fun _ _ z => z, rfl, q⟩
/-- e.n of an error -/
def tAtt (K : PySem.W.Frag) (n : Str) (te : TE) : TE := fun σ H Q => te σ H fun x H1 => ∃ (a C d : Addr) (fs : List (Str × V)) (v : V), x = .ref a ∧ H1 a = some (exo a C (some d)) ∧ H1 d = some (exd d fs) ∧ Isi K C ∧ PySem.W.findIn K (.ref C) n = some none ∧ fs.lookup n = some v ∧ Q v H1
theorem pe_att {n : Str} (he : PE X e te) (hb : attributeBase e n X.env (eval e X.env) = eval e X.env := by rfl) : PE X (.Attribute e n pos) (tAtt X.K n te) := by
  refine ⟨fun pins s σ H Q I h => ?_⟩
  refine attr_of hb (thn (he.run pins s σ H _ I h) fun u s1 ⟨x, H1, I1, rx, a, C, d, fs, v, ex, ea, ed, T, no, l, q⟩ => ?_)
  subst ex
  obtain rfl : u = Value.ref a := rx
  obtain ⟨t1, ho⟩ := exo_at I1.hok ea
  obtain ⟨mA, hns, hr⟩ := exd_at I1.hok ed
  obtain ⟨od, hod, hl⟩ := lookIn_ns hns
  obtain ⟨u, hu, ru⟩ := RelO.some_of (v := v) (o := mA n) (by rw [← l]; exact hr n)
  have J : PySem.W.InstAt s1.heap a _ C (some od) := ⟨ho, rfl, rfl, hod⟩
  exact HandSPX.exc_get I1.kIn J T.ga T.gt T.sb (PySem.W.findObj_own T.hd no rfl (by rw [hl, hu])) (handed_of ru) ⟨v, H1, I1.tok _, ru, q⟩
end
end Err
-- part Hk0
set_option maxHeartbeats 4000000
/-! What the top has written of a package's errors, told by names: the text of each, and a look at the heap. -/
namespace Hk
open PySem PySem.Spec PyProof.Rows L2 NdefX Err
def ErrD.st (d : ErrD) : Stmt := .FunctionDef "__init__" d.params d.body [] none [] d.scope none "__init__" default
abbrev plS : Sem Bool := do return (← (pure (some false) : Sem (Option Bool))).getD true
structure Text (d : ErrD) : Prop where
  ex : ∃ (msg : Str) (q1 q2 q3 q4 q5 q6 q7 q8 q9 q10 : Pos), NScope ["self", d.att, "__class__"] ["self", d.att] ["__class__"] d.scope ∧
    d.body = [.Expr (.Call (.Attribute (.Call (.Name "super" q1) [] [] q2) "__init__" q3) [.Constant (.str msg) 0 q4] [] q5) q6, .Assign [.Attribute (.Name "self" q7) d.att q8] (.Name d.att q9) q10] ∧
    (∀ env, SupEv q1 q2 q3 q4 q5 msg plS env) ∧ d.scope.names.lookup ("super" : Str) = some .globalImplicit ∧ (d.params.posonlyargs ++ d.params.args).head?.map (·.arg) = some ("self" : Str) ∧
    (d.att == ("__debug__" : Str)) = false ∧ (d.att == ("__classdict__" : Str)) = false ∧ (∀ env, swapsWith (.Name d.att q9) (some (.Attribute (.Name "self" q7) d.att q8)) q10.line env = pure false) ∧
    (∀ (cc cd : Addr) kV doc pm an ct e u, bindArgs (PySem.W.fnX "__init__" d.qual d.params d.body d.scope [("__class__", cc)] .none kV doc pm an (.ref cd) ct) ⟨[e, u], []⟩ = pure [(("self" : Str), e), (d.att, u)]) ∧
    (∀ (cc cd : Addr) kV doc pm an ct e u, bindArgs (PySem.W.fnX "__init__" d.qual d.params d.body d.scope [("__class__", cc)] .none kV doc pm an (.ref cd) ct) ⟨[e], [(d.att, u)]⟩ = pure [(("self" : Str), e), (d.att, u)])
end Hk
namespace Hk
open PySem PySem.Spec PyProof.Rows L2 NdefX Err
theorem isi_of {K : PySem.W.Frag} {C : Addr} {l : List Value} (b : basB K C = true) (m : mroB K C (.ref C :: l ++ vTail) = true) (g : genB K = true) : Isi K C := by
  unfold basB at b
  unfold genB at g
  simp only [Bool.and_eq_true, decide_eq_true_eq] at b g
  obtain ⟨b1, b2, b3, b4, b5, b6, b7⟩ := b
  obtain ⟨g1, g2, g3, g4⟩ := g
  have hm : (PySem.W.clsIn K C).map (·.mro) = some (.ref C :: l ++ vTail) := of_decide_eq_true m
  obtain ⟨cd, hc, hmr⟩ := Option.map_eq_some_iff.mp hm
  have inM : ∀ v, v ∈ vTail → PySem.W.mroIn K C v = some true := fun v hv => by
    unfold PySem.W.mroIn
    rw [hc]
    show (if cd.mro.isEmpty = true then none else some (cd.mro.contains v)) = some true
    rw [hmr]
    have e : (Value.ref C :: l ++ vTail).contains v = true := by
      rw [List.contains_iff_mem]
      exact List.mem_append_right _ hv
    rw [e]
    rfl
  exact ⟨b3, He.eqO_ok b4, He.eqO_ok b5, inM _ (by unfold vTail; simp), He.eqO_ok b6, He.eqO_ok g1, g2, inM _ (by unfold vTail; simp), b7⟩
theorem kit_ref {K : PySem.W.Frag} {C D : Addr} {l : List Addr} (m : mroB K C ((l.map Value.ref) ++ vTail) = true) (hl : l.head? = some C) (b : basB K D = true) : PySem.W.kitOne K (.ref C) (.ref D) = some (decide (D ∈ l)) := by
  have hm : (PySem.W.clsIn K C).map (·.mro) = some ((l.map Value.ref) ++ vTail) := of_decide_eq_true m
  obtain ⟨cd, hc, hmr⟩ := Option.map_eq_some_iff.mp hm
  unfold basB at b
  simp only [Bool.and_eq_true, decide_eq_true_eq] at b
  obtain ⟨b1, b2, b3, _⟩ := b
  unfold PySem.W.kitOne
  by_cases h : C = D
  · subst h
    rw [if_pos (by simp)]
    have : C ∈ l := List.mem_of_mem_head? hl
    rw [decide_eq_true this]
  · rw [if_neg (by simp [h])]
    unfold PySem.W.kitCls
    show (if ((PySem.W.clsIn K D).isSome && PySem.W.typeIn K (.ref D) == some (.type "type")) = true then PySem.W.subIn K (.ref C) (.ref D) else none) = _
    rw [b1, if_pos (by rw [b3]; simp)]
    show PySem.W.mroIn K C (.ref D) = _
    unfold PySem.W.mroIn
    rw [hc]
    show (if cd.mro.isEmpty = true then none else some (cd.mro.contains (.ref D))) = _
    rw [hmr]
    have ne : ((l.map Value.ref) ++ vTail).isEmpty = false := by
      cases l with
      | nil => cases hl
      | cons _ _ => rfl
    rw [ne, if_neg Bool.false_ne_true]
    congr 1
    by_cases hd : D ∈ l
    · rw [decide_eq_true hd, List.contains_iff_mem]
      exact List.mem_append_left _ (List.mem_map_of_mem hd)
    · rw [decide_eq_false hd]
      refine Bool.eq_false_iff.mpr fun z => ?_
      rw [List.contains_iff_mem] at z
      rcases List.mem_append.mp z with z | z
      · obtain ⟨x, hx, e⟩ := List.mem_map.mp z
        cases e
        exact hd hx
      · unfold vTail at z
        simp at z
theorem kit_VE {K : PySem.W.Frag} {C : Addr} {l : List Value} (m : mroB K C (.ref C :: l ++ vTail) = true) : PySem.W.kitOne K (.ref C) (.type "ValueError") = some true := by
  have hm : (PySem.W.clsIn K C).map (·.mro) = some (.ref C :: l ++ vTail) := of_decide_eq_true m
  obtain ⟨cd, hc, hmr⟩ := Option.map_eq_some_iff.mp hm
  unfold PySem.W.kitOne
  rw [if_neg (by simp)]
  unfold PySem.W.kitCls
  show (if PySem.W.kitMeta "ValueError" = true then PySem.W.subIn K (.ref C) (.type "ValueError") else none) = _
  rw [if_pos (by decide +kernel)]
  show PySem.W.mroIn K C (.type "ValueError") = _
  unfold PySem.W.mroIn
  rw [hc]
  show (if cd.mro.isEmpty = true then none else some (cd.mro.contains (.type "ValueError"))) = _
  rw [hmr]
  have e : (Value.ref C :: l ++ vTail).contains (.type "ValueError") = true := by
    rw [List.contains_iff_mem]
    exact List.mem_append_right _ (by unfold vTail; simp)
  rw [e]
  rfl
end Hk
/-! A look at what the top has written: errors of the package and the law's defs. -/
namespace Hk
open PySem PySem.Spec PyProof.Rows L2 NdefX Err
theorem cell_of {K : PySem.W.Frag} {cc C : Addr} (h : cellB K cc C = true) : ∃ c1 c2 c3, K.lookup cc = some ⟨c1, c2, .cell (some (.ref C)), c3⟩ := by
  unfold cellB at h
  split at h
  · rename_i c1 c2 D c3 e
    cases of_decide_eq_true h
    exact ⟨_, _, _, e⟩
  · cases h
theorem file_of {K : PySem.W.Frag} {cd : Addr} {file : Str} (h : fileB K cd file = true) : ∃ c1 c2 vs c3 f tf, K.lookup cd = some ⟨c1, c2, .fields vs, c3⟩ ∧ vs[2]? = some (.str f tf) ∧ (file == f) = true := by
  unfold fileB at h
  split at h
  · rename_i c1 c2 vs c3 e
    split at h
    · rename_i f tf e2
      exact ⟨_, _, _, _, _, _, e, e2, h⟩
    · cases h
  · cases h
theorem oex_of {K : PySem.W.Frag} {C : Addr} (h : oexB K C = true) : ∃ nm q N bs bm sn sub ab col dd k0 k1 k2 k3 k5, K.lookup C = some (excClassObj nm q C N bs bm true sn sub ab col dd k0 k1 k2 k3 k5 "ValueError.__new__") ∧ PySem.HandSPX.refsVE bm = true := by
  unfold oexB at h
  split at h
  · rename_i dd cd sl ho
    split at h
    · rename_i D bm k0 k1 k2 k3 n k5 hm hs
      simp only [Bool.and_eq_true, decide_eq_true_eq, Bool.not_eq_true'] at h
      obtain ⟨rfl, rfl, hdel, hd, hv⟩ := h
      obtain ⟨nm, bs, mro, ns, qn, hdc, sn, sub, ab, col, del⟩ := cd
      dsimp only at hm hdel hd
      subst hm hdel hd
      have hsl : sl = #[k0, k1, k2, k3, some (.builtin "ValueError.__new__"), k5] := by
        obtain ⟨l⟩ := sl
        simp only at hs
        rw [hs]
      subst hsl
      exact ⟨_, _, _, _, _, _, _, _, _, _, _, _, _, _, _, ho, hv⟩
    · cases h
  · cases h
theorem one_of {P : Program} {K : PySem.W.Frag} {d : ErrD} {l : List Value} (t : Text d) (e : iObs K d.nm = d.val) (o : oneB K P.main.file d = true) (b : basB K (He.ga K d.nm) = true) (m : mroB K (He.ga K d.nm) (.ref (He.ga K d.nm) :: l ++ vTail) = true)
    (g : genB K = true) (tp : (P.main.scope.names.lookup ("super" : Str)).isSome = false) : One P K (He.ga K d.nm) d.att := by
  obtain ⟨msg, q1, q2, q3, q4, q5, q6, q7, q8, q9, q10, h1, h2, h3, h4, h5, h6, h7, h8, h9, h10⟩ := t.ex
  unfold oneB at o
  simp only [Bool.and_eq_true, decide_eq_true_eq] at o
  obtain ⟨o1, o2, o3, o4, o5, o6, o7⟩ := o
  have I := isi_of b m g
  have hm : (PySem.W.clsIn K (He.ga K d.nm)).map (·.mro) = some (.ref (He.ga K d.nm) :: l ++ vTail) := of_decide_eq_true m
  obtain ⟨cl, hc, hmr⟩ := Option.map_eq_some_iff.mp hm
  have inM : ∀ v, (Value.ref (He.ga K d.nm) :: l ++ vTail).contains v = true → PySem.W.mroIn K (He.ga K d.nm) v = some true := fun v hv => by
    unfold PySem.W.mroIn
    rw [hc]
    show (if cl.mro.isEmpty = true then none else some (cl.mro.contains v)) = some true
    rw [hmr, hv]
    rfl
  unfold basB at b
  unfold genB at g
  simp only [Bool.and_eq_true, decide_eq_true_eq] at b g
  unfold iniB at o1
  unfold iObs at e
  cases q : K.lookup (ini K d.nm) with
  | none =>
    rw [q] at o1
    cases o1
  | some ob =>
    obtain ⟨oc, od, dt, osl⟩ := ob
    rw [q] at o1 e
    cases dt with
    | func fd =>
      obtain ⟨n1, n2, n3, n4, n5, n6, n7, n8, n9, n10, n11, n12, n13, n14, n15⟩ := fd
      have e2 : (some (n1, n2, n3, n4, n5, n6, n15) : FnI) = d.val := e
      unfold ErrD.val at e2
      simp only [Option.some.injEq, Prod.mk.injEq] at e2
      obtain ⟨r1, r2, r3, r4, r5, r6, r7⟩ := e2
      subst r1 r2 r3 r4 r5 r6 r7
      dsimp only at o1
      split at o1
      · rename_i x cc cd
        simp only [Bool.and_eq_true, decide_eq_true_eq] at o1
        obtain ⟨rfl, p1, p2, p3⟩ := o1
        exact ⟨⟨ini K d.nm, cc, cd, d.st, d.qual, msg, q1, q2, q3, q4, q5, q6, q7, q8, q9, q10, plS,
          ⟨⟨oex_of o2, He.eqO_ok o3, I.sb, b.1, b.2.1⟩, He.eqO_ok o4, o5, ⟨_, _, _, _, _, _, _, _, q⟩, p2, file_of p3, cell_of p1, He.eqO_ok o6, He.eqO_ok g.2.2.1, inM _ (by simp), inM _ (by rw [List.contains_iff_mem]; exact List.mem_append_right _ (by unfold vTail; simp)), He.eqO_ok o7, tp⟩,
          h1, h2, h3, h4, h5, h6, h7, h8, fun _ _ _ _ _ _ _ => h9 _ _ _ _ _ _ _ _ _, fun _ _ _ _ _ _ _ => h10 _ _ _ _ _ _ _ _ _⟩⟩
      · cases o1
    | _ => cases o1
end Hk

namespace Hk
open PySem PySem.Spec PyProof.Rows L2 NdefX Err
theorem t0 : Text d0 :=
  ⟨_, _, _, _, _, _, _, _, _, _, _, nscope_by (by decide +kernel), rfl, fun _ => rfl, rfl, rfl, rfl, rfl, fun _ => rfl, fun _ _ _ _ _ _ _ _ _ => rfl, fun _ _ _ _ _ _ _ _ _ => rfl⟩
theorem t1 : Text d1 :=
  ⟨_, _, _, _, _, _, _, _, _, _, _, nscope_by (by decide +kernel), rfl, fun _ => rfl, rfl, rfl, rfl, rfl, fun _ => rfl, fun _ _ _ _ _ _ _ _ _ => rfl, fun _ _ _ _ _ _ _ _ _ => rfl⟩
end Hk
-- part Dr

set_option maxHeartbeats 4000000
namespace Kn
open PySem PySem.Spec PyProof.Rows L2
def topS (i : Nat) : Stmt := PySem.Challenge.pw_stillknown_k02_patterns_made_and_fitted.main.body.getD i (.Pass ⟨0, 0, 0, 0⟩)
abbrev sBegun : Stmt := topS 21
abbrev sMixed : Stmt := topS 22
abbrev sTake : Stmt := topS 23
abbrev sPick : Stmt := topS 24
/-- the draws as a dict -/
abbrev kLarge : Key := Sum.inr "large"
abbrev kRest : Key := Sum.inr "rest"
abbrev kCells : Key := Sum.inr "cells"
abbrev kTurn : Key := Sum.inr "turn"
def dkv (l c : Addr) (r t : Int) : List (Key × V) := [(kLarge, .ref l), (kRest, .int r), (kCells, .ref c), (kTurn, .int t)]
theorem v_large (l c : Addr) (r t : Int) : valV (dkv l c r t) kLarge = some (.ref l) := by kernel_rfl
theorem v_rest (l c : Addr) (r t : Int) : valV (dkv l c r t) kRest = some (.int r) := by kernel_rfl
theorem v_cells (l c : Addr) (r t : Int) : valV (dkv l c r t) kCells = some (.ref c) := by kernel_rfl
theorem v_turn (l c : Addr) (r t : Int) : valV (dkv l c r t) kTurn = some (.int t) := by kernel_rfl
theorem p_rest (l c : Addr) (r t r' : Int) : putK (dkv l c r t) kRest (.int r') = dkv l c r' t := by kernel_rfl
theorem p_turn (l c : Addr) (r t t' : Int) : putK (dkv l c r t) kTurn (.int t') = dkv l c r t' := by kernel_rfl
def Ints (H : Hp) (a : Addr) : Prop := ∃ ns : List Int, H a = some (.lst (ns.map V.int))
structure Drw (H : Hp) (d l c : Addr) : Prop where
  dd : ∃ r t : Int, H d = some (.dK (dkv l c r t))
  ll : Ints H l
  cc : Ints H c
  lc : l ≠ c
/-- all that was tracked stands as it stood, but at the draws -/
def But (d l : Addr) (H H' : Hp) : Prop := ∀ b o, H b = some o → b ≠ d → b ≠ l → H' b = some o
section
variable {H H' : Hp} {d l c : Addr} {r t : Int}
theorem g_large (h : H d = some (.dK (dkv l c r t))) : DGet H d (.str "large") (some (.ref l)) := v_large l c r t ▸ DGet.k (k := kLarge) h
theorem g_rest (h : H d = some (.dK (dkv l c r t))) : DGet H d (.str "rest") (some (.int r)) := v_rest l c r t ▸ DGet.k (k := kRest) h
theorem g_cells (h : H d = some (.dK (dkv l c r t))) : DGet H d (.str "cells") (some (.ref c)) := v_cells l c r t ▸ DGet.k (k := kCells) h
theorem g_turn (h : H d = some (.dK (dkv l c r t))) : DGet H d (.str "turn") (some (.int t)) := v_turn l c r t ▸ DGet.k (k := kTurn) h
theorem q_rest {r' : Int} (h : H d = some (.dK (dkv l c r t))) : DPut H d (.str "rest") (.int r') (upd H d (.dK (dkv l c r' t))) := by
  have e := DPut.k (k := kRest) (v := .int r') h (by show 4 < sizeLine; decide)
  rw [p_rest] at e
  exact e
theorem q_turn {t' : Int} (h : H d = some (.dK (dkv l c r t))) : DPut H d (.str "turn") (.int t') (upd H d (.dK (dkv l c r t'))) := by
  have e := DPut.k (k := kTurn) (v := .int t') h (by show 4 < sizeLine; decide)
  rw [p_turn] at e
  exact e
theorem Drw.nl (D : Drw H d l c) : l ≠ d := by
  obtain ⟨⟨r, t, h⟩, ⟨ns, hl⟩, _, _⟩ := D
  exact ne_of hl h (by intro z; cases z)
theorem Drw.nc (D : Drw H d l c) : c ≠ d := by
  obtain ⟨⟨r, t, h⟩, _, ⟨ns, hc⟩, _⟩ := D
  exact ne_of hc h (by intro z; cases z)
/-- the dict is stored anew -/
theorem Drw.put (D : Drw H d l c) (r t : Int) : Drw (upd H d (.dK (dkv l c r t))) d l c :=
  ⟨⟨r, t, upd_same⟩, by obtain ⟨ns, e⟩ := D.ll; exact ⟨ns, by rw [upd_ne D.nl]; exact e⟩, by obtain ⟨ns, e⟩ := D.cc; exact ⟨ns, by rw [upd_ne D.nc]; exact e⟩, D.lc⟩
theorem But.refl : But d l H H := fun _ _ h _ _ => h
theorem But.trans {H1 H2 : Hp} (a : But d l H H1) (b : But d l H1 H2) : But d l H H2 := fun x o h h1 h2 => b x o (a x o h h1 h2) h1 h2
theorem But.atd {o : HO} : But d l H (upd H d o) := fun b u e h _ => by rw [upd_ne h]; exact e
theorem But.atl {o : HO} : But d l H (upd H l o) := fun b u e _ h => by rw [upd_ne h]; exact e
theorem But.new {p : Addr} {o : HO} (np : H p = none) : But d l H (upd H p o) := fun b u e _ _ => by rw [upd_ne (ne_of_none e np)]; exact e
theorem Drw.new {p : Addr} {o : HO} (D : Drw H d l c) (np : H p = none) : Drw (upd H p o) d l c := by
  obtain ⟨⟨r, t, h⟩, ⟨ns, hl⟩, ⟨ms, hc⟩, n⟩ := D
  exact ⟨⟨r, t, by rw [upd_ne (ne_of_none h np)]; exact h⟩, ⟨ns, by rw [upd_ne (ne_of_none hl np)]; exact hl⟩, ⟨ms, by rw [upd_ne (ne_of_none hc np)]; exact hc⟩, n⟩
end
def spMixed : Sp := fun vs H Q _ => ∃ d l c, vs = [.ref d] ∧ Drw H d l c ∧ ∀ (k : Int) H', Drw H' d l c → But d l H H' → Q (.int k) H'
def spTake : Sp := fun vs H Q _ => ∃ d l c n, vs = [.ref d, .int n] ∧ Drw H d l c ∧ 0 < n ∧ n < 1073741824 ∧ ∀ (k : Int) H', 0 ≤ k → k < n → Drw H' d l c → But d l H H' → Q (.int k) H'
def spPick : Sp := fun vs H Q _ => ∃ d l c s xs, vs = [.ref d, .ref s] ∧ Drw H d l c ∧ H s = some (.lst xs) ∧ s ≠ l ∧ 0 < xs.length ∧ xs.length ≤ 1000 ∧ ∀ (k : Nat) x H', xs[k]? = some x → Drw H' d l c → But d l H H' → Q x H'
theorem scM : FnScope ["_law_draw", "_law_turn", "_law_found", "_law_great", "_law_blend", "_law_grain"] ["_law_draw"] (defScope sMixed) := ⟨rfl, rfl, rfl, by decide +kernel, rfl, by decide +kernel, by decide +kernel⟩
theorem scT : FnScope ["_law_draw", "_law_amount", "_law_found"] ["_law_draw", "_law_amount"] (defScope sTake) := ⟨rfl, rfl, rfl, by decide +kernel, rfl, by decide +kernel, by decide +kernel⟩
theorem scP : FnScope ["_law_draw", "_law_some"] ["_law_draw", "_law_some"] (defScope sPick) := ⟨rfl, rfl, rfl, by decide +kernel, rfl, by decide +kernel, by decide +kernel⟩
/-- a remainder lies below 2^31 -/
theorem rem_in {a b : Int} (h0 : 0 < b) (h1 : b < 4294967296) : -(2 ^ 64) < a % b ∧ a % b < 2 ^ 64 := by
  have e1 := Int.emod_nonneg a (show b ≠ 0 by omega)
  have e2 := Int.emod_lt_of_pos a h0
  omega
theorem dp_ints {K : PySem.W.Frag} {H : Hp} : ∀ ns : List Int, DpAll K H (ns.map V.int) (ns.map PyData.int)
  | [] => .nil
  | n :: ns => .cons (.int n) (dp_ints ns)
theorem ints_shaped (ns : List Int) : SeqAt.shaped (.list (ns.map PyData.int)) = true := PySem.W.ke_shaped_ints ns
section
variable {P : Program} {w : World} {K : PySem.W.Frag} {mg : Str → Option Value} {base : Heap}
theorem ok_mixed {f : Addr} {fd : FuncData} (F : Fun K "_law_mixed" "_law_mixed" sMixed f fd) (mi : mg "int" = none) : FnOk P w K mg base CX0 1 f fd ["_law_draw"] spMixed := by
  refine F.ok scM (fun vs H Q E h => ?_) (fun cdv A outer s H vs Q E hr h => ?_)
  · obtain ⟨d, l, c, rfl, _⟩ := h
    rfl
  · obtain ⟨d, l, c, rfl, D, q⟩ := h
    have hu := hu_of hr
    refine ⟨_, pss_cons (ps_dput hu (pv 0) pe_str (pe_op op_add (pe_dget hu (pv 0) pe_str (fun _ _ => rfl)) pe_int) rfl)
      (pss_cons (ps_par (i := 1) (j := 2) rfl scM.nd rfl rfl (by decide) rfl rfl (pa_cons (pe_callTy call_int1 (by rfl) mi (by decide +kernel) (pa_cons (pe_dget hu (pv 0) pe_str (fun _ _ => rfl)) pa_nil)) (pa_cons pe_int pa_nil)) (by rfl) (by rfl))
      (pss_cons (ps_for PassesOwn.never rfl (pi_list (pe_lst (pa_cons pe_int (pa_cons pe_int (pa_cons pe_int pa_nil))))) (pg_name (i := 3) scM.nd rfl (.inl rfl))
        (pss_cons (ps_set (i := 4) scM.nd rfl (.inl rfl) (pe_op op_mod (pe_op op_add (pe_op op_mul (pv 1) pe_int) (pe_op op_fdiv (pv 3) pe_int)) (pv 3)))
        (pss_cons (ps_for PassesOwn.never rfl (pi_list (pe_dget hu (pv 0) pe_str (fun _ _ => rfl))) (pg_name (i := 5) scM.nd rfl (.inl rfl))
          (pss_one (ps_set (i := 4) scM.nd rfl (.inl rfl) (pe_op op_mod (pe_op op_add (pe_op op_mul (pv 4) pe_int) (pe_callTy call_int1 (by rfl) mi (by decide +kernel) (pa_cons (pv 5) pa_nil))) (pv 3)))))
        (pss_one (ps_set (i := 2) scM.nd rfl (.inl rfl) (pe_op op_add (pe_op op_mul (pv 2) pe_int) (pe_op op_mod (pe_op op_pow (pv 4) pe_int) (pv 3))))))))
      (pss_one (ps_ret (pv 2))))), ?_⟩
    obtain ⟨⟨r, t, hd⟩, ll, cc, lc⟩ := id D
    -- the turn
    refine ⟨_, rfl, d, _, rfl, g_turn hd, _, _, rfl, rfl, _, rfl, d, _, rfl, q_turn hd, ?_⟩
    have D1 := D.put r (t + 1)
    obtain ⟨⟨r1, t1, hd1⟩, _, _, _⟩ := id D1
    refine ⟨_, rfl, d, _, rfl, g_turn hd1, .inl ⟨_, rfl, _, _, rfl, ?_⟩⟩
    have B1 : But d l H (upd H d (.dK (dkv l c r (t + 1)))) := But.atd
    generalize upd H d (.dK (dkv l c r (t + 1))) = H1 at D1 hd1 B1 ⊢
    -- the three moduli
    refine ⟨by show 3 ≤ sizeLine; decide, fun p np => ?_⟩
    have gp : (upd H1 p (.lst [.int 2147483629, .int 2147483587, .int 2147483579])) p = some (.lst [.int 2147483629, .int 2147483587, .int 2147483579]) := upd_same
    refine ⟨p, rfl, ⟨_, SqL.of gp⟩, for_list (xs := [.int 2147483629, .int 2147483587, .int 2147483579]) (fun _ σ H2 => ∃ (fo : Int) (y3 y4 y5 : Option V), σ = [some (.ref d), some (.int t1), some (.int fo), y3, y4, y5] ∧ Drw H2 d l c ∧ But d l H H2 ∧ H2 p = some (.lst [.int 2147483629, .int 2147483587, .int 2147483579]))
      ⟨0, none, none, none, rfl, D1.new np, B1.trans (But.new np), gp⟩ (fun _ _ _ _ ⟨_, _, _, _, _, _, _, e⟩ => SqL.of e) ?_ ?_⟩
    · rintro i x σ H2 hx ⟨fo, y3, y4, y5, rfl, D2, B2, e2⟩
      obtain ⟨g, rfl, h0, h1⟩ : ∃ g : Int, x = .int g ∧ 0 < g ∧ g < 4294967296 := by
        rcases i with _ | _ | _ | i
        · exact ⟨_, (Option.some.inj hx).symm, by decide, by decide⟩
        · exact ⟨_, (Option.some.inj hx).symm, by decide, by decide⟩
        · exact ⟨_, (Option.some.inj hx).symm, by decide, by decide⟩
        · simp at hx
      refine ⟨_, rfl, _, _, rfl, rfl, .inr ⟨by decide, by decide⟩, _, rfl, _, _, rfl, rfl, ⟨by decide, by decide⟩, _, _, rfl, rfl, _, rfl, _, _, rfl, rfl, h0, ?_⟩
      obtain ⟨⟨r2, t2, hd2⟩, _, ⟨cs, hc2⟩, _⟩ := id D2
      refine ⟨_, rfl, d, _, rfl, g_cells hd2, c, rfl, ⟨_, SqL.of hc2⟩, for_list (xs := cs.map V.int) (fun _ σ H3 => ∃ (bl : Int) (y5 : Option V), σ = [some (.ref d), some (.int t1), some (.int fo), some (.int g), some (.int bl), y5] ∧ (-(2 ^ 64) < bl ∧ bl < 2 ^ 64) ∧ H3 = H2)
        ⟨_, y5, rfl, rem_in h0 h1, rfl⟩ (fun _ _ _ _ ⟨_, _, _, _, e⟩ => by rw [e]; exact SqL.of hc2) ?_ ?_⟩
      · rintro j x σ H3 hx ⟨b, y, rfl, hb, rfl⟩
        obtain ⟨z, rfl⟩ : ∃ z, x = V.int z := by
          rw [List.getElem?_map] at hx
          cases e : cs[j]? with
          | none => rw [e] at hx; cases hx
          | some z => rw [e] at hx; exact ⟨z, (Option.some.inj hx).symm⟩
        refine ⟨_, rfl, _, _, rfl, rfl, .inl hb, _, rfl, .inl ⟨_, rfl, _, _, rfl, rfl, _, rfl, _, _, rfl, rfl, h0, ?_⟩⟩
        exact ⟨_, _, rfl, rem_in h0 h1, rfl⟩
      · rintro σ H3 ⟨b, y, rfl, hb, rfl⟩
        refine ⟨_, rfl, _, _, rfl, rfl, .inr ⟨by decide, by decide⟩, _, rfl, _, _, rfl, rfl, ⟨by decide, by decide, ?_⟩, _, rfl, _, _, rfl, rfl, h0, _, _, rfl, rfl, ?_⟩
        · omega
        · exact ⟨_, _, _, _, rfl, D2, B2, e2⟩
    · rintro σ H2 ⟨fo, y3, y4, y5, rfl, D2, B2, e2⟩
      exact ⟨_, rfl, q fo H2 D2 B2⟩
theorem ok_take {f fM : Addr} {fd fdM : FuncData} (F : Fun K "_law_take" "_law_take" sTake f fd) (FM : Fun K "_law_mixed" "_law_mixed" sMixed fM fdM) (bM : Binds K fdM ["_law_draw"] []) (gM : mg "_law_mixed" = some (.ref fM)) (mi : mg "int" = none) :
    FnOk P w K mg base CX0 2 f fd ["_law_draw", "_law_amount"] spTake := by
  have GM : FnOk P w K mg base CX0 1 fM fdM ["_law_draw"] spMixed := ok_mixed FM mi
  refine F.ok scT (fun vs H Q E h => ?_) (fun cdv A outer s H vs Q E hr h => ?_)
  · obtain ⟨d, l, c, n, rfl, _⟩ := h
    rfl
  · obtain ⟨d, l, c, n, rfl, D, n0, n1, q⟩ := h
    have hu := hu_of hr
    refine ⟨_, pss_cons (ps_if (pt_cmpR op_eq (pe_dget hu (pv 0) pe_str (fun _ _ => rfl)) pe_int (nomark _))
        (pss_one (ps_dput hu (pv 0) pe_str (pe_ifExp (pt_cmpR (op_neD hr.units) (pe_dget hu (pv 0) pe_str (fun _ _ => rfl)) (pe_lst pa_nil) (nomark _))
          (pe_bm PySem.F.plainAttrs_list PySem.F.slot_list_pop PySem.F.type_list_pop mt_popAt (pe_dget hu (pv 0) pe_str (fun _ _ => rfl)) (pa_cons pe_int pa_nil))
          (pe_call GM hr (by rfl) gM FM.kp bM .nil pass0 (pa_cons (pv 0) pa_nil))) rfl)) pss_nil)
      (pss_cons (ps_set (i := 2) scT.nd rfl (.inl rfl) (pe_op op_mod (pe_callTy call_int1 (by rfl) mi (by decide +kernel) (pa_cons (pe_dget hu (pv 0) pe_str (fun _ _ => rfl)) pa_nil)) (pv 1)))
      (pss_cons (ps_dput hu (pv 0) pe_str (pe_op op_fdiv (pe_callTy call_int1 (by rfl) mi (by decide +kernel) (pa_cons (pe_dget hu (pv 0) pe_str (fun _ _ => rfl)) pa_nil)) (pv 1)) rfl)
      (pss_one (ps_ret (pv 2))))), ?_⟩
    obtain ⟨⟨r, t, hd⟩, ll, cc, lc⟩ := id D
    refine' (fun tail : ∀ H1 : Hp, Drw H1 d l c → But d l H H1 → (?G : Hp → Prop) H1 => ?a) ?b
    case a =>
      refine ⟨_, rfl, d, _, rfl, g_rest hd, rfl, _, rfl, ite2 (fun e => ?_) (fun e => ?_)⟩
      -- the rest is 0: the first of the large ones, or a mixed one
      · obtain ⟨ns, hl⟩ := ll
        refine ⟨_, rfl, d, _, rfl, g_large hd, Nat.zero_le _, fun p np => ?_⟩
        have Dp1 := D.new (o := .lst []) np
        have Bp1 : But d l H (upd H p (.lst [])) := But.new np
        have hl1 : (upd H p (.lst [])) l = some (.lst (ns.map V.int)) := by rw [upd_ne (ne_of_none hl np)]; exact hl
        have hd1 : (upd H p (.lst [])) d = some (.dK (dkv l c r t)) := by rw [upd_ne (ne_of_none hd np)]; exact hd
        have hp1 : (upd H p (.lst [])) p = some (.lst []) := upd_same
        generalize upd H p (.lst []) = H1 at Dp1 Bp1 hl1 hd1 hp1 ⊢
        refine ⟨.list (ns.map PyData.int), .list [], .lst (SqL.of hl1) (dp_ints ns), .lst (SqL.of hp1) .nil, ints_shaped ns, rfl, _, rfl, ?_⟩
        cases ns with
        | nil =>
          refine iteF ⟨.ref d, rfl, d, l, c, rfl, Dp1, fun k H2 D2 B2 => ?_⟩
          obtain ⟨⟨r2, t2, hd2⟩, _, _, _⟩ := id D2
          refine ⟨_, rfl, d, _, rfl, q_rest hd2, ?_⟩
          have D3 := D2.put k t2
          have B3 : But d l H (upd H2 d (.dK (dkv l c k t2))) := (Bp1.trans B2).trans But.atd
          generalize upd H2 d (.dK (dkv l c k t2)) = H3 at D3 B3 ⊢
          exact tail H3 D3 B3
        | cons x xs =>
          refine iteT ⟨_, rfl, d, _, rfl, g_large hd1, .inl ⟨rfl, _, SqL.of hl1⟩, l, _, 0, 0, .int x, rfl, rfl, hl1, by decide, by decide, seqIndex_of (by decide) (by simp), rfl, ?_⟩
          have D2 : Drw (upd H1 l (.lst (xs.map V.int))) d l c := ⟨⟨r, t, by rw [upd_ne D.nl.symm]; exact hd1⟩, ⟨xs, upd_same⟩, by obtain ⟨ms, hc⟩ := Dp1.cc; exact ⟨ms, by rw [upd_ne lc.symm]; exact hc⟩, lc⟩
          have B2 : But d l H (upd H1 l (.lst (xs.map V.int))) := Bp1.trans But.atl
          have eL : (List.map V.int (x :: xs)).eraseIdx 0 = xs.map V.int := rfl
          rw [eL]
          obtain ⟨⟨r2, t2, hd2⟩, _, _, _⟩ := id D2
          refine ⟨_, rfl, d, _, rfl, q_rest hd2, ?_⟩
          have D3 := D2.put x t2
          have B3 := B2.trans (But.atd (o := .dK (dkv l c x t2)))
          generalize upd (upd H1 l (.lst (xs.map V.int))) d (.dK (dkv l c x t2)) = H3 at D3 B3 ⊢
          exact tail H3 D3 B3
      · exact tail H D But.refl
    case b =>
      intro H1 D1 B1
      obtain ⟨⟨r1, t1, hd1⟩, _, _, _⟩ := id D1
      refine ⟨_, rfl, d, _, rfl, g_rest hd1, .inl ⟨_, rfl, _, rfl, _, _, rfl, rfl, n0, ?_⟩⟩
      refine ⟨_, rfl, d, _, rfl, g_rest hd1, .inl ⟨_, rfl, _, rfl, _, _, rfl, rfl, ⟨n0, n1⟩, _, rfl, d, _, rfl, q_rest hd1, ?_⟩⟩
      exact ⟨_, rfl, q _ _ (Int.emod_nonneg _ (by omega)) (Int.emod_lt_of_pos _ n0) (D1.put _ _) (B1.trans But.atd)⟩
theorem ok_pick {f fT fM : Addr} {fd fdT fdM : FuncData} (F : Fun K "_law_pick" "_law_pick" sPick f fd) (FT : Fun K "_law_take" "_law_take" sTake fT fdT) (FM : Fun K "_law_mixed" "_law_mixed" sMixed fM fdM)
    (bT : Binds K fdT ["_law_draw", "_law_amount"] []) (bM : Binds K fdM ["_law_draw"] []) (gT : mg "_law_take" = some (.ref fT)) (gM : mg "_law_mixed" = some (.ref fM)) (mi : mg "int" = none) (ml : mg "len" = none) :
    FnOk P w K mg base CX0 3 f fd ["_law_draw", "_law_some"] spPick := by
  have GT : FnOk P w K mg base CX0 2 fT fdT ["_law_draw", "_law_amount"] spTake := ok_take FT FM bM gM mi
  refine F.ok scP (fun vs H Q E h => ?_) (fun cdv A outer s H vs Q E hr h => ?_)
  · obtain ⟨d, l, c, z, xs, rfl, _⟩ := h
    rfl
  · obtain ⟨d, l, c, z, xs, rfl, D, hz, zl, x0, x1, q⟩ := h
    have hu := hu_of hr
    refine ⟨_, pss_one (ps_ret (pe_ix ix_list (pv 1) (pe_call GT hr (by rfl) gT FT.kp bT .nil pass0 (pa_cons (pv 0) (pa_cons (pe_callB call_len_seq (by rfl) ml PySem.boot_len (pa_cons (pv 1) pa_nil)) pa_nil))) (fun _ _ => rfl))), ?_⟩
    obtain ⟨⟨r, t, hd⟩, _, _, _⟩ := id D
    have zd : z ≠ d := ne_of hz hd (by intro z; cases z)
    refine ⟨_, rfl, _, rfl, _, rfl, z, xs, rfl, .inl (SqL.of hz), d, l, c, _, rfl, D, by omega, by omega, fun k H1 k0 k1 D1 B1 => ?_⟩
    obtain ⟨j, rfl⟩ : ∃ j : Nat, k = (j : Int) := ⟨k.toNat, by omega⟩
    have hj : j < xs.length := by omega
    exact ⟨z, xs, (j : Int), xs[j], rfl, rfl, SqL.of (B1 _ _ hz zd zl), atI_nat (List.getElem?_eq_getElem hj), q j _ H1 (List.getElem?_eq_getElem hj) D1 B1⟩
end
end Kn
-- part Bg
set_option maxHeartbeats 4000000
namespace Kn
open PySem PySem.Spec PyProof.Rows L2
theorem scB : FnScope ["_law_script", "_law_large", "_law_grain"] ["_law_script"] (defScope sBegun) := ⟨rfl, rfl, rfl, by decide +kernel, rfl, by decide +kernel, by decide +kernel⟩
def spBegun (K : PySem.W.Frag) : Sp := fun vs H Q _ => ∃ (a : Addr) (ns : List Int), vs = [.ref a] ∧ SqL K H a (ns.map V.int) ∧ ns.length ≤ 63 ∧ ∀ d l c H', Same H H' → H d = none → H l = none → H c = none → Drw H' d l c → Q (.ref d) H'
theorem same_new {H : Hp} {p : Addr} {o : HO} (h : H p = none) : Same H (upd H p o) := fun b u e => by
  rw [upd_ne (ne_of_none e h)]
  exact e
theorem same_own {H H1 : Hp} {p : Addr} {o : HO} (h : H p = none) (s : Same H H1) : Same H (upd H1 p o) := fun b u e => by
  rw [upd_ne (ne_of_none e h)]
  exact s b u e
theorem int_at {ns : List Int} {i : Nat} {x : V} (h : (ns.map V.int)[i]? = some x) : ∃ z, x = V.int z ∧ i < ns.length := by
  have hi := (List.getElem?_eq_some_iff.mp h).1
  rw [List.length_map] at hi
  rw [List.getElem?_map, List.getElem?_eq_getElem hi] at h
  exact ⟨ns[i], (Option.some.inj h).symm, hi⟩
section
variable {P : Program} {w : World} {K : PySem.W.Frag} {mg : Str → Option Value} {base : Heap}
theorem ok_begun {f : Addr} {fd : FuncData} (F : Fun K "_law_begun" "_law_begun" sBegun f fd) (ma : mg "abs" = none) : FnOk P w K mg base CX0 1 f fd ["_law_script"] (spBegun K) := by
  refine F.ok scB (fun vs H Q E h => ?_) (fun cdv A outer s H vs Q E hr h => ?_)
  · obtain ⟨a, ns, rfl, _⟩ := h
    rfl
  · obtain ⟨a, ns, rfl, hS, hn, q⟩ := h
    have hu := hu_of hr
    refine ⟨_, pss_cons (ps_setLc (i := 1) (own := [("_law_grain", 2)]) (g := gName 2) rfl scB.nd rfl rfl (sw_true rfl rfl rfl (by decide +kernel)) (pi_list (pv 0)) (blkOk_by (N := ["_law_script", "_law_large", "_law_grain"]) (sc := defScope sBegun) (by decide +kernel)) (fun _ _ _ _ _ => pg_name (i := 2) scB.nd rfl (.inl rfl))
          (fun _ _ _ _ _ => pts_one (pt_cmpR op_ge (pe_callB call_abs (by rfl) ma (by decide +kernel) (pa_cons (pv 2) pa_nil)) (pe_op op_pow pe_int pe_int) (nomark _)))
          (fun _ _ _ _ _ => pe_op op_sub (pe_callB call_abs (by rfl) ma (by decide +kernel) (pa_cons (pv 2) pa_nil)) (pe_op op_pow pe_int pe_int)))
      (pss_one (ps_ret (pe_disp (pps_cons pe_str (pv 1) (pps_cons pe_str pe_int (pps_cons pe_str
          (pe_lc (own := [("_law_grain", 2)]) (g := gName 2) rfl scB.nd (pi_list (pv 0)) (blkOk_by (N := ["_law_script", "_law_large", "_law_grain"]) (sc := defScope sBegun) (by decide +kernel)) (fun _ _ _ _ _ => pg_name (i := 2) scB.nd rfl (.inl rfl)) (fun _ _ _ _ _ => pts_nil)
            (fun _ _ _ _ _ => pe_callB call_abs (by rfl) ma (by decide +kernel) (pa_cons (pv 2) pa_nil)))
          (pps_cons pe_str pe_int pps_nil)))) rfl rfl (by decide) (by decide)))), ?_⟩
    -- the large ones
    refine ⟨_, rfl, a, rfl, ⟨_, hS⟩, fun L nL => lc_list (xs := ns.map V.int) (fun i H2 => Same H H2 ∧ ∃ acc : List Int, H2 L = some (.lst (acc.map V.int)) ∧ acc.length ≤ i) ⟨same_new nL, [], upd_same, Nat.le_refl _⟩ (fun _ _ _ h => h.1.seq hS) ?_ ?_⟩
    · rintro i x H2 hx ⟨sm, acc, ea, la⟩
      obtain ⟨z, rfl, hi⟩ := int_at hx
      refine ⟨rfl, _, rfl, z, rfl, _, _, rfl, rfl, ⟨by decide, by decide, by decide⟩, _, _, rfl, rfl, _, rfl, ite2 (fun e => ?_) (fun e => ?_)⟩
      · refine ⟨_, rfl, z, rfl, _, _, rfl, rfl, ⟨by decide, by decide, by decide⟩, _, _, rfl, rfl, _, ea, ?_, same_own nL sm, acc ++ [(if z < 0 then -z else z) - 10 ^ Int.toNat 18], ?_, ?_⟩
        · rw [List.length_map]
          exact small1000 (by omega)
        · exact Eq.trans upd_same (by rw [List.map_append]; rfl)
        · rw [List.length_append, List.length_singleton]
          omega
      · exact ⟨sm, acc, ea, Nat.le_succ_of_le la⟩
    · rintro H2 ⟨sm, ls, eL, _⟩
      -- the dict
      refine fun p np => ?_
      have npL : L ≠ p := ne_of_none eL np
      refine ⟨_, rfl, _, rfl, a, rfl, ⟨_, (same_new np).seq (sm.seq hS)⟩, fun C nC => lc_list (xs := ns.map V.int) (fun i H3 => Same H H3 ∧ H3 p = some (.dK []) ∧ H3 L = some (.lst (ls.map V.int)) ∧ ∃ acc : List Int, H3 C = some (.lst (acc.map V.int)) ∧ acc.length ≤ i) ?_ (fun _ _ _ h => h.1.seq hS) ?_ ?_⟩
      · have npC : p ≠ C := ne_of_none upd_same nC
        have nC2 : H2 C = none := (same_new np).free nC
        refine ⟨sm.trans ((same_new np).trans (same_new nC)), ?_, ?_, [], upd_same, Nat.le_refl _⟩
        · rw [upd_ne npC, upd_same]
        · rw [upd_ne (ne_of_none eL nC2), upd_ne npL]
          exact eL
      · rintro i x H3 hx ⟨s3, ep, e3, acc, ea, la⟩
        obtain ⟨z, rfl, hi⟩ := int_at hx
        have pC : p ≠ C := ne_of ep ea (by intro z; cases z)
        have LC : L ≠ C := fun e => by
          have nC2 := (same_new (o := .dK []) np).free nC
          rw [← e, eL] at nC2
          cases nC2
        refine ⟨rfl, ?_⟩
        dsimp only [tYes]
        rw [if_pos rfl]
        refine ⟨_, rfl, z, rfl, _, ea, ?_, same_own (sm.free ((same_new np).free nC)) s3, ?_, ?_, acc ++ [if z < 0 then -z else z], ?_, ?_⟩
        · rw [List.length_map]
          exact small1000 (by omega)
        · rw [upd_ne pC]
          exact ep
        · rw [upd_ne LC]
          exact e3
        · exact Eq.trans upd_same (by rw [List.map_append]; rfl)
        · rw [List.length_append, List.length_singleton]
          omega
      · rintro H3 ⟨s3, ep, e3, acc, ea, la⟩
        have nC2 : H2 C = none := (same_new np).free nC
        have LC : L ≠ C := fun e => by
          rw [← e, eL] at nC2
          cases nC2
        have pC : C ≠ p := ne_of ea ep (by intro z; cases z)
        refine ⟨ep, dkv L C 0 0, rfl, by show 4 ≤ 15; decide, ?_⟩
        refine q p L C _ (same_own (sm.free np) s3) (sm.free np) nL (sm.free nC2) ⟨⟨0, 0, upd_same⟩, ⟨ls, ?_⟩, ⟨acc, ?_⟩, LC⟩
        · rw [upd_ne npL]
          exact e3
        · rw [upd_ne pC]
          exact ea
end
end Kn
-- part Sh
set_option maxHeartbeats 4000000
namespace Kn
open PySem PySem.Spec PyProof.Rows L2
abbrev sShuf : Stmt := topS 25
theorem scS : FnScope ["_law_draw", "_law_some", "_law_pool", "_law_found"] ["_law_draw", "_law_some"] (defScope sShuf) := ⟨rfl, rfl, rfl, by decide +kernel, rfl, by decide +kernel, by decide +kernel⟩
/-- a number or a text -/
inductive Sm : V → PyData → Prop where
  | int (i : Int) : Sm (.int i) (.int i)
  | str (x : Str) (h : PyData.strOk x = true) : Sm (.str x) (.str x)
inductive Sms : List V → List PyData → Prop where
  | nil : Sms [] []
  | cons {x : V} {y : PyData} {xs : List V} {ys : List PyData} (h : Sm x y) (t : Sms xs ys) : Sms (x :: xs) (y :: ys)
theorem Sms.of : ∀ {xs : List V}, (∀ x ∈ xs, ∃ y, Sm x y) → ∃ ys, Sms xs ys
  | [], _ => ⟨_, .nil⟩
  | x :: xs, h => by
    obtain ⟨y, hy⟩ := h x (List.mem_cons_self ..)
    obtain ⟨ys, t⟩ := Sms.of (xs := xs) fun z hz => h z (List.mem_cons_of_mem _ hz)
    exact ⟨_, .cons hy t⟩
theorem Sms.dp {K : PySem.W.Frag} {H : Hp} : ∀ {xs : List V} {ys : List PyData}, Sms xs ys → DpAll K H xs ys
  | _, _, .nil => .nil
  | _, _, .cons h t => .cons (by cases h with | int i => exact .int _ | str x _ => exact .str _) t.dp
theorem Sms.lay : ∀ {xs : List V} {ys : List PyData}, Sms xs ys → PyData.canLayAll0 ys = true ∧ PyData.depthAll ys = 0
  | _, _, .nil => ⟨rfl, rfl⟩
  | _, _, .cons h t => by
    obtain ⟨z1, z2⟩ := t.lay
    cases h with
    | int i => simp [PyData.canLayAll0, PyData.canLay0, PyData.depthAll, PyData.depth, z1, z2]
    | str x h => simp [PyData.canLayAll0, PyData.canLay0, PyData.depthAll, PyData.depth, z1, z2, h]
theorem Sms.flat {xs : List V} {ys : List PyData} (h : Sms xs ys) : SeqAt.shaped (.list ys) = true := by
  obtain ⟨z1, z2⟩ := h.lay
  simp [SeqAt.shaped, PyData.canLay0, PyData.depth, z1, z2]
theorem But.own {d l p : Addr} {H H2 : Hp} {o : HO} (b : But d l H H2) (np : H p = none) : But d l H (upd H2 p o) := fun x u e h1 h2 => by
  rw [upd_ne (ne_of_none e np)]
  exact b x u e h1 h2
theorem Drw.own {d l c p : Addr} {H H2 : Hp} {o : HO} (D : Drw H2 d l c) (D0 : Drw H d l c) (np : H p = none) : Drw (upd H2 p o) d l c := by
  obtain ⟨⟨r, t, h⟩, ⟨ns, hl⟩, ⟨ms, hc⟩, n⟩ := D
  obtain ⟨⟨r0, t0, h0⟩, ⟨ns0, hl0⟩, ⟨ms0, hc0⟩, _⟩ := D0
  exact ⟨⟨r, t, by rw [upd_ne (ne_of_none h0 np)]; exact h⟩, ⟨ns, by rw [upd_ne (ne_of_none hl0 np)]; exact hl⟩, ⟨ms, by rw [upd_ne (ne_of_none hc0 np)]; exact hc⟩, n⟩
theorem perm_pop : ∀ {xs : List V} {k : Nat} {y : V}, xs[k]? = some y → (y :: xs.eraseIdx k).Perm xs
  | x :: xs, 0, y, h => by
    cases h
    exact .refl _
  | x :: xs, k + 1, y, h => by
    have z := perm_pop (xs := xs) (k := k) (y := y) (by simpa using h)
    exact (List.Perm.swap x y _).trans (z.cons x)
def spShuf : Sp := fun vs H Q _ => ∃ d l c s xs, vs = [.ref d, .ref s] ∧ Drw H d l c ∧ H s = some (.lst xs) ∧ s ≠ l ∧ (∀ x ∈ xs, ∃ y, Sm x y) ∧ xs.length ≤ 1000 ∧ ∀ p ys H', ys.Perm xs → Drw H' d l c → But d l H H' → H p = none → H' p = some (.lst ys) → Q (.ref p) H'
section
variable {P : Program} {w : World} {K : PySem.W.Frag} {mg : Str → Option Value} {base : Heap}
theorem ok_shuf {f fT : Addr} {fd fdT : FuncData} (F : Fun K "_law_shuffled" "_law_shuffled" sShuf f fd) (GT : FnOk P w K mg base CX0 2 fT fdT ["_law_draw", "_law_amount"] spTake) (kT : PySem.W.keepIn K (.ref fT) = true)
    (bT : Binds K fdT ["_law_draw", "_law_amount"] []) (gT : mg "_law_take" = some (.ref fT)) (ml : mg "len" = none) (mk : mg "list" = none) : FnOk P w K mg base CX0 3 f fd ["_law_draw", "_law_some"] spShuf := by
  have S := scS
  refine F.ok S (fun vs H Q E h => ?_) (fun cdv A outer s H vs Q E hr h => ?_)
  · obtain ⟨d, l, c, z, xs, rfl, _⟩ := h
    rfl
  · obtain ⟨d, l, c, z, xs, rfl, D, hz, zl, hx, x1, q⟩ := h
    have hu := hu_of hr
    refine ⟨_, pss_cons (ps_par (i := 2) (j := 3) rfl S.nd rfl rfl (by decide) rfl rfl (pa_cons (pe_callTy call_list_of (by rfl) mk (by decide +kernel) (pa_cons (pv 1) pa_nil)) (pa_cons (pe_lst pa_nil) pa_nil)) (by rfl) (by rfl))
      (pss_cons (ps_while PassesOwn.never (pt_cmpR (op_neD hr.units) (pv 2) (pe_lst pa_nil) (nomark _))
        (pss_one (ps_expr (pe_bm PySem.F.plainAttrs_list PySem.F.slot_list_append PySem.F.type_list_append mt_append (pv 3)
          (pa_cons (pe_bm PySem.F.plainAttrs_list PySem.F.slot_list_pop PySem.F.type_list_pop mt_popAt (pv 2)
            (pa_cons (pe_call GT hr (by rfl) gT kT bT .nil pass0 (pa_cons (pv 0) (pa_cons (pe_callB call_len_seq (by rfl) ml PySem.boot_len (pa_cons (pv 2) pa_nil)) pa_nil))) pa_nil)) pa_nil)))))
      (pss_one (ps_ret (pv 3)))), ?_⟩
    refine ⟨_, rfl, z, xs, rfl, .inl (SqL.of hz), fun po npo => ?_⟩
    refine ⟨Nat.zero_le _, fun fo nfo => ⟨_, _, rfl, ?_⟩⟩
    have nfo' : H fo = none := by
      by_cases e : fo = po
      · subst e
        rw [upd_same] at nfo
        cases nfo
      · rw [upd_ne e] at nfo
        exact nfo
    have pf : po ≠ fo := fun e => by
      subst e
      rw [upd_same] at nfo
      cases nfo
    have hp0 : (upd (upd H po (.lst xs)) fo (.lst [])) po = some (.lst xs) := by rw [upd_ne pf, upd_same]
    have hf0 : (upd (upd H po (.lst xs)) fo (.lst [])) fo = some (.lst []) := upd_same
    have D1 := ((Drw.own (o := .lst xs) D D npo).own (o := .lst []) D nfo')
    have B1 : But d l H (upd (upd H po (.lst xs)) fo (.lst [])) := (But.own (o := .lst xs) But.refl npo).own nfo'
    generalize upd (upd H po (.lst xs)) fo (.lst []) = H1 at hp0 hf0 D1 B1 ⊢
    refine ⟨fun m σ H2 => ∃ ps fs, σ = [some (.ref d), some (.ref z), some (.ref po), some (.ref fo)] ∧ H2 po = some (.lst ps) ∧ H2 fo = some (.lst fs) ∧ m = ps.length ∧ (fs ++ ps).Perm xs ∧ Drw H2 d l c ∧ But d l H H2, ⟨_, xs, [], rfl, hp0, hf0, rfl, .refl _, D1, B1⟩, ?_⟩
    rintro m σ H2 ⟨ps, fs, rfl, hp, hf, rfl, pm, D2, B2⟩
    have hl0 : ∃ o, H l = some o := by obtain ⟨_, ⟨ns, e⟩, _, _⟩ := D; exact ⟨_, e⟩
    have hd0 : ∃ o, H d = some o := by obtain ⟨⟨r, t, e⟩, _, _, _⟩ := D; exact ⟨_, e⟩
    have pl : po ≠ l := fun e => by obtain ⟨o, z⟩ := hl0; rw [← e, npo] at z; cases z
    have pd : po ≠ d := fun e => by obtain ⟨o, z⟩ := hd0; rw [← e, npo] at z; cases z
    have fl : fo ≠ l := fun e => by obtain ⟨o, z⟩ := hl0; rw [← e, nfo'] at z; cases z
    have fd' : fo ≠ d := fun e => by obtain ⟨o, z⟩ := hd0; rw [← e, nfo'] at z; cases z
    refine ⟨_, rfl, Nat.zero_le _, fun e ne => ?_⟩
    obtain ⟨ds, hds⟩ := Sms.of (xs := ps) fun x hh => hx x (pm.subset (List.mem_append_right _ hh))
    have hp3 : (upd H2 e (.lst [])) po = some (.lst ps) := by rw [upd_ne (ne_of_none hp ne)]; exact hp
    have hf3 : (upd H2 e (.lst [])) fo = some (.lst fs) := by rw [upd_ne (ne_of_none hf ne)]; exact hf
    have he3 : (upd H2 e (.lst [])) e = some (.lst []) := upd_same
    have D3 := D2.new (o := .lst []) ne
    have B3 : But d l H (upd H2 e (.lst [])) := B2.trans (But.new ne)
    generalize upd H2 e (.lst []) = H3 at hp3 hf3 he3 D3 B3 ⊢
    have lsum : fs.length + ps.length = xs.length := by rw [← List.length_append]; exact pm.length_eq
    refine ⟨.list ds, .list [], .lst (SqL.of hp3) hds.dp, .lst (SqL.of he3) .nil, hds.flat, rfl, _, rfl, ?_⟩
    cases hds with
    | nil =>
      refine iteF ⟨_, rfl, q fo fs H3 (by simpa using pm) D3 B3 nfo' hf3⟩
    | @cons x y0 r ys hxy ht =>
      refine iteT ⟨fun σ' H' => ∃ m', m' < (x :: r).length ∧ ∃ ps fs, σ' = [some (.ref d), some (.ref z), some (.ref po), some (.ref fo)] ∧ H' po = some (.lst ps) ∧ H' fo = some (.lst fs) ∧ m' = ps.length ∧ (fs ++ ps).Perm xs ∧ Drw H' d l c ∧ But d l H H', fun _ _ h => h, ?_⟩
      refine ⟨_, rfl, .inl ⟨rfl, _, SqL.of hf3⟩, _, rfl, .inl ⟨rfl, _, SqL.of hp3⟩, _, rfl, _, rfl, po, x :: r, rfl, .inl (SqL.of hp3), d, l, c, ((x :: r).length : Nat), rfl, D3, by rw [List.length_cons]; omega, by rw [List.length_cons] at lsum ⊢; omega, fun k H4 k0 k1 D4 B4 => ?_⟩
      obtain ⟨j, rfl⟩ : ∃ j : Nat, k = (j : Int) := ⟨k.toNat, by omega⟩
      have hj : j < (x :: r).length := by omega
      have hj2 : j < 1001 := by omega
      have hp4 := B4 _ _ hp3 pd pl
      have hf4 := B4 _ _ hf3 fd' fl
      have gj := List.getElem?_eq_getElem hj
      refine ⟨po, x :: r, (j : Int), j, (x :: r)[j], rfl, rfl, hp4, by omega, by omega, seqIndex_of (by omega) (by exact Int.ofNat_lt.mpr hj), gj, ?_⟩
      have hf5 : (upd H4 po (.lst ((x :: r).eraseIdx j))) fo = some (.lst fs) := by rw [upd_ne pf.symm]; exact hf4
      have hp5 : (upd H4 po (.lst ((x :: r).eraseIdx j))) po = some (.lst ((x :: r).eraseIdx j)) := upd_same
      have D5 := D4.own (o := .lst ((x :: r).eraseIdx j)) D npo
      have B5 := (B3.trans B4).own (o := .lst ((x :: r).eraseIdx j)) npo
      generalize upd H4 po (.lst ((x :: r).eraseIdx j)) = H5 at hf5 hp5 D5 B5 ⊢
      refine ⟨fo, fs, (x :: r)[j], rfl, rfl, hf5, small1000 (by omega), ?_⟩
      have el : ((x :: r).eraseIdx j).length = (x :: r).length - 1 := List.length_eraseIdx_of_lt hj
      refine ⟨_, ?_, (x :: r).eraseIdx j, fs ++ [(x :: r)[j]], rfl, ?_, upd_same, rfl, ?_, D5.own D nfo', B5.own nfo'⟩
      · rw [el, List.length_cons]
        omega
      · rw [upd_ne pf]
        exact hp5
      · rw [List.append_assoc]
        exact ((perm_pop gj).append_left fs).trans pm
end
end Kn
-- part Ti
set_option maxHeartbeats 4000000
namespace Kn
open PySem PySem.Spec PyProof.Rows L2
abbrev sTitles : Stmt := topS 27
def TI : List Str := ["a", "add", "b", "c", "count", "in", "mm", "on", "plus", "star", "sum", "take", "w", "x", "y", "zzzzzz"]
theorem scTi : FnScope ["_law_draw", "_law_many", "_law_some"] ["_law_draw", "_law_many"] (defScope sTitles) := ⟨rfl, rfl, rfl, by decide +kernel, rfl, by decide +kernel, by decide +kernel⟩
def unS : V → Str
  | .str x => x
  | _ => ""
theorem strs_of : ∀ {xs : List V}, (∀ x ∈ xs, ∃ y, x = V.str y) → xs = (xs.map unS).map V.str
  | [], _ => rfl
  | x :: xs, h => by
    obtain ⟨y, rfl⟩ := h x (List.mem_cons_self ..)
    exact congrArg (V.str y :: ·) (strs_of fun z hz => h z (List.mem_cons_of_mem _ hz))
theorem un_str (xs : List Str) : (xs.map V.str).map unS = xs := by
  induction xs with
  | nil => rfl
  | cons x xs ih => exact congrArg (x :: ·) ih
theorem perm_strs {ys : List V} {xs : List Str} (h : ys.Perm (xs.map V.str)) : ∃ zs : List Str, ys = zs.map V.str ∧ zs.Perm xs := by
  refine ⟨ys.map unS, strs_of fun y hy => ?_, ?_⟩
  · obtain ⟨z, _, e⟩ := List.mem_map.mp (h.subset hy)
    exact ⟨z, e.symm⟩
  · have z := h.map unS
    rw [un_str] at z
    exact z
theorem cut_to {ys : List V} {n : Nat} : cutV ys none (some (n : Int)) = ys.take n := by
  unfold cutV
  rw [HT.sIx_none, HT.sIx_nat]
  simp
/-- a list of different titles, ascending -/
structure Tis (ts : List Str) : Prop where
  nd : ts.Nodup
  so : sortedS ts = true
  inT : ∀ t ∈ ts, t ∈ TI
def spTitles : Sp := fun vs H Q _ => ∃ d l c, ∃ n : Nat, vs = [.ref d, .int n] ∧ Drw H d l c ∧ n ≤ 16 ∧ ∀ p ts H', Tis ts → ts.length = n → Drw H' d l c → But d l H H' → H p = none → H' p = some (.lst (ts.map V.str)) → Q (.ref p) H'
theorem ti_sm : ∀ x ∈ TI.map V.str, ∃ y, Sm x y := fun x hx => by
  obtain ⟨t, ht, rfl⟩ := List.mem_map.mp hx
  have z : ∀ t ∈ TI, PyData.strOk t = true := by decide +kernel
  exact ⟨_, .str t (z t ht)⟩
theorem ti_nd : TI.Nodup := by decide +kernel
section
variable {P : Program} {w : World} {K : PySem.W.Frag} {mg : Str → Option Value} {base : Heap}
theorem ok_titles {f fT : Addr} {fd fdT : FuncData} (F : Fun K "_law_titles" "_law_titles" sTitles f fd) (GT : FnOk P w K mg base CX0 3 fT fdT ["_law_draw", "_law_some"] spShuf) (kT : PySem.W.keepIn K (.ref fT) = true)
    (bT : Binds K fdT ["_law_draw", "_law_some"] []) (gT : mg "_law_shuffled" = some (.ref fT)) (ms : mg "sorted" = none) : FnOk P w K mg base CX0 4 f fd ["_law_draw", "_law_many"] spTitles := by
  have S := scTi
  refine F.ok S (fun vs H Q E h => ?_) (fun cdv A outer s H vs Q E hr h => ?_)
  · obtain ⟨d, l, c, n, rfl, _⟩ := h
    rfl
  · obtain ⟨d, l, c, n, rfl, D, hn, q⟩ := h
    have hu := hu_of hr
    refine ⟨_, pss_cons (ps_set (i := 2) S.nd rfl (.inl rfl) (pe_lst (pa_cons pe_str (pa_cons pe_str (pa_cons pe_str (pa_cons pe_str (pa_cons pe_str (pa_cons pe_str (pa_cons pe_str (pa_cons pe_str (pa_cons pe_str (pa_cons pe_str (pa_cons pe_str (pa_cons pe_str (pa_cons pe_str (pa_cons pe_str (pa_cons pe_str (pa_cons pe_str pa_nil))))))))))))))))))
      (pss_one (ps_ret (pe_callB cr_sortedS (by rfl) ms (by decide +kernel) (pa_cons (pe_slice sl_list (pe_call GT hr (by rfl) gT kT bT .nil pass0 (pa_cons (pv 0) (pa_cons (pv 2) pa_nil))) po_none (po_some (pv 1))) pa_nil)))), ?_⟩
    refine ⟨by show 16 ≤ sizeLine; decide, fun s ns => ?_⟩
    have hs : (upd H s (.lst (TI.map V.str))) s = some (.lst (TI.map V.str)) := upd_same
    have D1 := D.new (o := .lst (TI.map V.str)) ns
    have B1 : But d l H (upd H s (.lst (TI.map V.str))) := But.new ns
    have sl : s ≠ l := fun e => by obtain ⟨_, ⟨xs, z⟩, _, _⟩ := D; rw [← e, ns] at z; cases z
    refine ⟨_, rfl, _, rfl, d, l, c, s, TI.map V.str, rfl, D1, hs, sl, ti_sm, by decide, fun p ys H2 pm D2 B2 np hp => ?_⟩
    obtain ⟨zs, rfl, pz⟩ := perm_strs pm
    have lz : zs.length = 16 := pz.length_eq
    refine ⟨_, rfl, (n : Int), rfl, p, zs.map V.str, rfl, SqL.of hp, fun e ne => ?_⟩
    rw [cut_to, ← List.map_take]
    have lt : (zs.take n).length = n := by rw [List.length_take, lz]; omega
    refine ⟨e, zs.take n, rfl, SqL.of upd_same, by omega, fun ts r pt so nr => ?_⟩
    have nH : ∀ {b : Addr}, H2 b = none → H b = none := fun {b} hb => by
      cases z : H b with
      | none => rfl
      | some o =>
        by_cases e1 : b = d
        · obtain ⟨⟨x, y, w⟩, _, _, _⟩ := D2
          rw [← e1, hb] at w
          cases w
        · by_cases e2 : b = l
          · obtain ⟨_, ⟨x, w⟩, _, _⟩ := D2
            rw [← e2, hb] at w
            cases w
          · rw [B2 b o (B1 b o z e1 e2) e1 e2] at hb
            cases hb
    have nr2 : H2 r = none := by
      by_cases e1 : r = e
      · rw [e1]; exact ne
      · rw [upd_ne e1] at nr
        exact nr
    have sub : ∀ t ∈ ts, t ∈ TI := fun t ht => pz.subset (List.take_subset _ _ (pt.subset ht))
    refine q r ts _ ⟨?_, so, sub⟩ (by rw [pt.length_eq, lt]) ((D2.new ne).new nr) (((B1.trans B2).trans (But.new ne)).trans (But.new nr)) (nH nr2) upd_same
    exact (pt.nodup_iff).mpr ((List.take_sublist _ _).nodup (pz.nodup_iff.mpr ti_nd))
end
end Kn
-- part Vl
set_option maxHeartbeats 4000000
/-! Any value, as far as the package judges it: a word W of it, and the package's judges as functions of that word. -/
namespace Kn
open PySem PySem.Spec PyProof.Rows L2
inductive W where
  | non
  | bl (b : Bool)
  | int (i : Int)
  | str (x : Str)
  | lst (ws : List W)
  | tup (ws : List W)
  | dct (kws : List (Option Key × W))
/-- a dict at a, its items in their order -/
def DctAt (H : Hp) (a : Addr) (kvs : List (Option Key × V)) : Prop := ∃ ks : List (Key × V), Rd H a (.dK ks) ∧ kvs = ks.map fun p => (some p.1, p.2)
/-- a key that is short -/
def kSm : Option Key → Prop
  | some (.inr x) => x.cps.size ≤ 900 ∧ PyData.strOk x = true
  | _ => True
mutual
inductive Is (H : Hp) : V → W → Prop
  | non : Is H .non .non
  | bl (b : Bool) : Is H (.bl b) (.bl b)
  | int (i : Int) : Is H (.int i) (.int i)
  | str (x : Str) (h : x.cps.size ≤ 900) (ok : PyData.strOk x = true) : Is H (.str x) (.str x)
  | lst {a : Addr} {xs : List V} {ws : List W} (h : xs.length ≤ 900) : H a = some (.lst xs) → IsAll H xs ws → Is H (.ref a) (.lst ws)
  | tup {a : Addr} {xs : List V} {ws : List W} (h : xs.length ≤ 900) : Rd H a (.tup xs) → IsAll H xs ws → Is H (.ref a) (.tup ws)
  | dct {a : Addr} {kvs : List (Option Key × V)} {kws : List (Option Key × W)} (h : kvs.length ≤ 900) : DctAt H a kvs → IsKV H kvs kws → Is H (.ref a) (.dct kws)
inductive IsAll (H : Hp) : List V → List W → Prop
  | nil : IsAll H [] []
  | cons {v : V} {w : W} {vs : List V} {ws : List W} : Is H v w → IsAll H vs ws → IsAll H (v :: vs) (w :: ws)
inductive IsKV (H : Hp) : List (Option Key × V) → List (Option Key × W) → Prop
  | nil : IsKV H [] []
  | cons {k : Option Key} {v : V} {w : W} {vs : List (Option Key × V)} {ws : List (Option Key × W)} (hk : kSm k) : Is H v w → IsKV H vs ws → IsKV H ((k, v) :: vs) ((k, w) :: ws)
end
theorem DctAt.same {H H' : Hp} {a : Addr} {kvs : List (Option Key × V)} (h : DctAt H a kvs) (s : Same H H') : DctAt H' a kvs := by
  obtain ⟨ks, e, q⟩ := h
  refine ⟨ks, ?_, q⟩
  rcases e with e | ⟨o, e⟩
  · exact .inl (s _ _ e)
  · exact .inr ⟨o, s _ _ e⟩
/-- a dict is locked: what reads it stays -/
theorem DctAt.lock {H : Hp} {a d : Addr} {od : Obj} {ks0 : List (Key × V)} {kvs : List (Option Key × V)} (hd : H d = some (.dK ks0)) (h : DctAt H a kvs) : DctAt (upd H d (.frz od (.dK ks0))) a kvs := by
  obtain ⟨ks, e, q⟩ := h
  refine ⟨ks, ?_, q⟩
  by_cases hb : a = d
  · subst hb
    rcases e with e | ⟨o, e⟩
    · rw [hd] at e
      cases e
      exact .inr ⟨od, upd_same⟩
    · rw [hd] at e
      cases e
  · rcases e with e | ⟨o, e⟩
    · exact .inl (by rw [upd_ne hb]; exact e)
    · exact .inr ⟨o, by rw [upd_ne hb]; exact e⟩
theorem Rd.same {H H' : Hp} {a : Addr} {u : HO} (h : Rd H a u) (s : Same H H') : Rd H' a u := by
  rcases h with e | ⟨o, e⟩
  · exact .inl (s _ _ e)
  · exact .inr ⟨o, s _ _ e⟩
theorem Rd.lock {H : Hp} {a d : Addr} {od : Obj} {ks : List (Key × V)} {xs : List V} (hd : H d = some (.dK ks)) (h : Rd H a (.tup xs)) : Rd (upd H d (.frz od (.dK ks))) a (.tup xs) := by
  have ne : a ≠ d := fun z => by
    rcases h with e | ⟨o, e⟩
    · rw [z, hd] at e
      cases e
    · rw [z, hd] at e
      cases e
  rcases h with e | ⟨o, e⟩
  · exact .inl (by rw [upd_ne ne]; exact e)
  · exact .inr ⟨o, by rw [upd_ne ne]; exact e⟩
mutual
theorem Is.same {H H' : Hp} {v : V} {w : W} (s : Same H H') : Is H v w → Is H' v w
  | .non => .non
  | .bl b => .bl b
  | .int i => .int i
  | .str x h ok => .str x h ok
  | .lst h e t => .lst h (s _ _ e) (t.same s)
  | .tup h e t => .tup h (Rd.same e s) (t.same s)
  | .dct h e t => .dct h (e.same s) (t.same s)
theorem IsAll.same {H H' : Hp} {v : List V} {w : List W} (s : Same H H') : IsAll H v w → IsAll H' v w
  | .nil => .nil
  | .cons h t => .cons (h.same s) (t.same s)
theorem IsKV.same {H H' : Hp} {v : List (Option Key × V)} {w : List (Option Key × W)} (s : Same H H') : IsKV H v w → IsKV H' v w
  | .nil => .nil
  | .cons hk h t => .cons hk (h.same s) (t.same s)
end
mutual
theorem Is.lock {H : Hp} {d : Addr} {od : Obj} {ks0 : List (Key × V)} (hd : H d = some (.dK ks0)) {v : V} {w : W} : Is H v w → Is (upd H d (.frz od (.dK ks0))) v w
  | .non => .non
  | .bl b => .bl b
  | .int i => .int i
  | .str x h ok => .str x h ok
  | .lst h e t => .lst h (by rw [upd_ne (ne_of e hd (by intro z; cases z))]; exact e) (t.lock hd)
  | .tup h e t => .tup h (Rd.lock hd e) (t.lock hd)
  | .dct h e t => .dct h (e.lock hd) (t.lock hd)
theorem IsAll.lock {H : Hp} {d : Addr} {od : Obj} {ks0 : List (Key × V)} (hd : H d = some (.dK ks0)) {v : List V} {w : List W} : IsAll H v w → IsAll (upd H d (.frz od (.dK ks0))) v w
  | .nil => .nil
  | .cons h t => .cons (h.lock hd) (t.lock hd)
theorem IsKV.lock {H : Hp} {d : Addr} {od : Obj} {ks0 : List (Key × V)} (hd : H d = some (.dK ks0)) {v : List (Option Key × V)} {w : List (Option Key × W)} : IsKV H v w → IsKV (upd H d (.frz od (.dK ks0))) v w
  | .nil => .nil
  | .cons hk h t => .cons hk (h.lock hd) (t.lock hd)
end
/-- not locked -/
def NF (H : Hp) (v : V) : Prop := ∀ a o u, v = .ref a → H a ≠ some (.frz o u)
def tyN : W → String
  | .non => "NoneType"
  | .bl _ => "bool"
  | .int _ => "int"
  | .str _ => "str"
  | .lst _ => "list"
  | .tup _ => "tuple"
  | .dct _ => "dict"
theorem Is.ty {K : PySem.W.Frag} {H : Hp} {v : V} {w : W} (h : Is H v w) : TyX K H v (.type (tyN w)) := by
  cases h with
  | non => exact .base .non
  | bl b => exact .base (.bl b)
  | int i => exact .base (.int i)
  | str x _ _ => exact .base (.str x)
  | lst _ e _ => exact .base (.lst e)
  | tup _ e _ =>
    rcases e with e | ⟨o, e⟩
    · exact .base (.tup e)
    · exact .fTuple e
  | dct _ e _ =>
    obtain ⟨ks, e, _⟩ := e
    rcases e with e | ⟨o, e⟩
    · exact .base (.dK e)
    · exact .fDict e
abbrev isTy (T : String) (w : W) : Bool := (kitB (tyN w) T).getD false
/-- isinstance(v, T), for the kinds that the package asks for -/
theorem Is.kit {K : PySem.W.Frag} {w : W} {T : String} (hT : T ∈ ["bool", "int", "str", "list", "tuple", "dict"]) : PySem.W.kitOne K (.type (tyN w)) (.type T) = some (isTy T w) := by
  refine kit_ty ?_
  have z : ∀ a ∈ ["NoneType", "bool", "int", "str", "list", "tuple", "dict"], ∀ T ∈ ["bool", "int", "str", "list", "tuple", "dict"], kitB a T = some ((kitB a T).getD false) := by decide +kernel
  exact z (tyN w) (by cases w <;> simp [tyN]) T hT
def isNum (w : W) : Bool := isTy "int" w && !isTy "bool" w
theorem isNum_eq (w : W) : isNum w = match w with | .int _ => true | _ => false := by
  cases w <;> kernel_rfl
/-- a judge of one value -/
def spJ (f : W → Bool) : Sp := fun vs H Q _ => ∃ v w, vs = [v] ∧ Is H v w ∧ Q (.bl (f w)) H
/-- answers put into a new list, one at a turn -/
def PB (H1 : Hp) (D : Addr) (bs : List Bool) (i : Nat) (H : Hp) : Prop := Same H1 H ∧ H D = some (.lst ((bs.take i).map V.bl))
theorem PB.zero {H1 : Hp} {D : Addr} {bs : List Bool} (n : H1 D = none) : PB H1 D bs 0 (upd H1 D (.lst [])) := ⟨same_new n, upd_same⟩
theorem PB.step {H1 H H4 : Hp} {D : Addr} {bs : List Bool} {i : Nat} {b : Bool} (p : PB H1 D bs i H) (s : Same H H4) (n : H1 D = none) (hi : i ≤ 900) (hb : bs[i]? = some b) :
    ∃ acc, H4 D = some (.lst acc) ∧ acc.length < sizeLine ∧ PB H1 D bs (i + 1) (upd H4 D (.lst (acc ++ [.bl b]))) := by
  refine ⟨_, s _ _ p.2, ?_, same_own n (p.1.trans s), ?_⟩
  · rw [List.length_map, List.length_take]
    exact small1000 (by omega)
  · rw [upd_same, List.take_add_one, hb, List.map_append]
    rfl
theorem PB.all {H1 H : Hp} {D : Addr} {bs : List Bool} (p : PB H1 D bs bs.length H) : H D = some (.lst (bs.map V.bl)) := by
  have z := p.2
  rw [List.take_length] at z
  exact z
def LET : Str := "abcdefghijklmnopqrstuvwxyz"
def isName (x : Str) : Bool := decide (1 ≤ x.cps.size) && (decide (x.cps.size ≤ 6) && (!decide (x = "t") && x.cps.toList.all fun c => decide (c ∈ LET.cps.toList)))
def isNameW : W → Bool
  | .str x => isName x
  | _ => false
def isSeq (w : W) : Bool := isTy "list" w || isTy "tuple" w
def withinW (lo hi : Int) : W → Bool
  | .int i => decide (lo ≤ i) && decide (i ≤ hi)
  | _ => false
abbrev sNumber : Stmt := topS 6
abbrev sWithin : Stmt := topS 7
theorem scNu : FnScope ["value"] ["value"] (defScope sNumber) := ⟨rfl, rfl, rfl, by decide +kernel, rfl, by decide +kernel, by decide +kernel⟩
theorem scWi : FnScope ["value", "least", "greatest"] ["value", "least", "greatest"] (defScope sWithin) := ⟨rfl, rfl, rfl, by decide +kernel, rfl, by decide +kernel, by decide +kernel⟩
section
variable {P : Program} {w : World} {K : PySem.W.Frag} {mg : Str → Option Value} {base : Heap}
theorem ok_number {f : Addr} {fd : FuncData} (F : Fun K "is_number" "is_number" sNumber f fd) (mi : mg "isinstance" = none) (m1 : mg "int" = none) (m2 : mg "bool" = none) : FnOk P w K mg base CX0 1 f fd ["value"] (spJ isNum) := by
  have S := scNu
  refine F.ok S (fun vs H Q E h => ?_) (fun cdv A outer s H vs Q E hr h => ?_)
  · obtain ⟨v, w, rfl, _⟩ := h
    rfl
  · obtain ⟨v, w, rfl, hv, q⟩ := h
    refine ⟨_, pss_one (ps_ret (pe_and (pe_callB call_isi (by rfl) mi PyProof.Rows.boot_isinstance (pa_cons (pv 0) (pa_cons (pe_bltn (v := .ty "int") (by rfl) m1 (by decide +kernel) rfl) pa_nil)))
      (pe_one (pe_not (pe_callB call_isi (by rfl) mi PyProof.Rows.boot_isinstance (pa_cons (pv 0) (pa_cons (pe_bltn (v := .ty "bool") (by rfl) m2 (by decide +kernel) rfl) pa_nil))))))), ?_⟩
    refine ⟨_, rfl, v, .ty "int", .type (tyN w), .type "int", isTy "int" w, rfl, .ty _, hv.ty, Is.kit (by decide), _, rfl, ?_⟩
    unfold isNum at q
    cases e : isTy "int" w with
    | false =>
      rw [e] at q
      exact iteF q
    | true =>
      rw [e] at q
      refine iteT ⟨_, rfl, v, .ty "bool", .type (tyN w), .type "bool", isTy "bool" w, rfl, .ty _, hv.ty, Is.kit (by decide), _, rfl, q⟩
def spWithin : Sp := fun vs H Q _ => ∃ v w lo hi, vs = [v, .int lo, .int hi] ∧ Is H v w ∧ Q (.bl (withinW lo hi w)) H
theorem ok_within {f fN : Addr} {fd fdN : FuncData} (F : Fun K "is_within" "is_within" sWithin f fd) (GN : FnOk P w K mg base CX0 1 fN fdN ["value"] (spJ isNum)) (kN : PySem.W.keepIn K (.ref fN) = true)
    (bN : Binds K fdN ["value"] []) (gN : mg "is_number" = some (.ref fN)) : FnOk P w K mg base CX0 2 f fd ["value", "least", "greatest"] spWithin := by
  have S := scWi
  refine F.ok S (fun vs H Q E h => ?_) (fun cdv A outer s H vs Q E hr h => ?_)
  · obtain ⟨v, w, lo, hi, rfl, _⟩ := h
    rfl
  · obtain ⟨v, w, lo, hi, rfl, hv, q⟩ := h
    refine ⟨_, pss_one (ps_ret (pe_and (pe_call GN hr (by rfl) gN kN bN .nil pass0 (pa_cons (pv 0) pa_nil)) (pe_one (pe_chain op_le op_le (pv 1) (pv 0) (pv 2))))), ?_⟩
    refine ⟨_, rfl, v, w, rfl, hv, _, rfl, ?_⟩
    cases hv with
    | int i =>
      refine iteT ⟨_, rfl, _, rfl, _, _, rfl, rfl, _, rfl, ?_⟩
      have e : withinW lo hi (.int i) = (decide (lo ≤ i) && decide (i ≤ hi)) := rfl
      rw [e] at q
      cases e1 : decide (lo ≤ i) with
      | false =>
        rw [e1] at q
        exact iteF q
      | true =>
        rw [e1] at q
        exact iteT ⟨_, rfl, _, _, rfl, rfl, q⟩
    | non => exact iteF q
    | bl b => exact iteF q
    | str x _ _ => exact iteF q
    | lst _ _ _ => exact iteF q
    | tup _ _ _ => exact iteF q
    | dct _ _ _ => exact iteF q
end
end Kn
-- part Vn
set_option maxHeartbeats 4000000
namespace Kn
open PySem PySem.Spec PyProof.Rows L2
abbrev sName : Stmt := topS 8
abbrev sIsList : Stmt := topS 9
abbrev NNa : List Str := ["value", "letter"]
theorem scNa : FnScope NNa ["value"] (defScope sName) := ⟨rfl, rfl, rfl, by decide +kernel, rfl, by decide +kernel, by decide +kernel⟩
theorem scIl : FnScope ["value"] ["value"] (defScope sIsList) := ⟨rfl, rfl, rfl, by decide +kernel, rfl, by decide +kernel, by decide +kernel⟩
section
variable {P : Program} {w : World} {K : PySem.W.Frag} {mg : Str → Option Value} {base : Heap}
theorem ok_isList {f : Addr} {fd : FuncData} (F : Fun K "is_list" "is_list" sIsList f fd) (mi : mg "isinstance" = none) (m1 : mg "list" = none) (m2 : mg "tuple" = none) : FnOk P w K mg base CX0 1 f fd ["value"] (fun vs H Q _ => ∃ v w, vs = [v] ∧ Is H v w ∧ ∀ H', Same H H' → Q (.bl (isSeq w)) H') := by
  have S := scIl
  refine F.ok S (fun vs H Q E h => ?_) (fun cdv A outer s H vs Q E hr h => ?_)
  · obtain ⟨v, w, rfl, _⟩ := h
    rfl
  · obtain ⟨v, w, rfl, hv, q⟩ := h
    refine ⟨_, pss_one (ps_ret (pe_callB call_isiT (by rfl) mi PyProof.Rows.boot_isinstance (pa_cons (pv 0) (pa_cons (pe_tup (pa_cons (pe_bltn (v := .ty "list") (by rfl) m1 (by decide +kernel) rfl) (pa_cons (pe_bltn (v := .ty "tuple") (by rfl) m2 (by decide +kernel) rfl) pa_nil))) pa_nil)))), ?_⟩
    refine ⟨_, rfl, by show 2 ≤ sizeLine; decide, fun t nt => ?_⟩
    refine ⟨v, t, _, .type (tyN w), [.type "list", .type "tuple"], isSeq w, rfl, upd_same, .cons (.ty _) (.cons (.ty _) .nil), (hv.same (same_new nt)).ty, ?_, q _ (same_new nt)⟩
    refine kitAny_cons (b := isTy "list" w) (Is.kit (by decide)) (fun e => kitAny_cons (b := isTy "tuple" w) (Is.kit (by decide)) (fun e2 => ?_) (fun e2 => ?_)) (fun e => ?_)
    · unfold isSeq; rw [e, e2]; exact kitAny_nil
    · unfold isSeq; rw [e, e2]; rfl
    · unfold isSeq; rw [e]; rfl
theorem ok_name {f : Addr} {fd : FuncData} (F : Fun K "is_name" "is_name" sName f fd) (mi : mg "isinstance" = none) (m1 : mg "str" = none) (ml : mg "len" = none) (ma : mg "all" = none) (mL : ∃ t, mg "LETTERS" = some (.str LET t)) :
    FnOk P w K mg base CX0 1 f fd ["value"] (fun vs H Q _ => ∃ v w, vs = [v] ∧ Is H v w ∧ ∀ H', Same H H' → Q (.bl (isNameW w)) H') := by
  have S := scNa
  obtain ⟨tL, mL⟩ := mL
  refine F.ok S (fun vs H Q E h => ?_) (fun cdv A outer s H vs Q E hr h => ?_)
  · obtain ⟨v, w, rfl, _⟩ := h
    rfl
  · obtain ⟨v, w, rfl, hv, q⟩ := h
    have hc := hr.hd
    refine ⟨_, pss_cons (ps_if (PW.pt (pw_or (pt_not (pt_val (pe_callB call_isi (by rfl) mi PyProof.Rows.boot_isinstance (pa_cons (pv 0) (pa_cons (pe_bltn (v := .ty "str") (by rfl) m1 (by decide +kernel) rfl) pa_nil)))))
        (pw_or (pt_not (pt_chain op_le op_le pe_int (pe_callB call_len_str (by rfl) ml PySem.boot_len (pa_cons (pv 0) pa_nil)) pe_int))
          (pw_or1 (pt_cmpR op_eq (pv 0) pe_str (nomark _)))))) (pss_one (ps_ret pe_bl)) pss_nil)
      (pss_one (ps_ret (pe_callB (cr_all (by rfl)) (by rfl) ma (by decide +kernel) (pa_cons (pe_lc (own := [("letter", 1)]) (g := gName 1) rfl S.nd (pi_str (pv 0)) (blkOk_by (N := NNa) (sc := defScope sName) (by decide +kernel)) (fun _ _ _ _ _ => pg_name (i := 1) S.nd rfl (.inl rfl)) (fun _ _ _ _ _ => pts_nil)
        (fun _ _ _ _ _ => pe_cmpR op_in_sign (pv 1) (pe_glob (v := .str LET) (by rfl) mL ⟨_, rfl⟩) (by rfl))) pa_nil)))), ?_⟩
    refine ⟨_, rfl, v, .ty "str", .type (tyN w), .type "str", isTy "str" w, rfl, .ty _, hv.ty, Is.kit (by decide), _, rfl, ?_⟩
    have sr := Same.refl (H := H)
    have hs : (∃ x, w = .str x) ∨ (isTy "str" w = false ∧ isNameW w = false) := by
      cases w with
      | str x => exact .inl ⟨x, rfl⟩
      | _ => exact .inr ⟨by kernel_rfl, rfl⟩
    rcases hs with ⟨x, rfl⟩ | ⟨e1, e2⟩
    · cases hv with
      | str x hx hok =>
        have e : isTy "str" (.str x) = true := by kernel_rfl
        have big : (900 : Nat) ≤ sizeLine := by decide
        have fin : isName x = false → Q (.bl false) H := fun e => by
          have z := q H sr
          rw [show isNameW (.str x) = isName x from rfl, e] at z
          exact z
        rw [e]
        refine iteF ⟨_, rfl, x, rfl, Nat.le_trans hx big, _, _, rfl, rfl, _, rfl, ?_⟩
        cases e1 : decide ((1 : Int) ≤ (x.length : Int)) with
        | false => exact iteF ⟨_, rfl, iteT (iteT (fin (by
            have z : decide (1 ≤ x.cps.size) = false := decide_eq_false fun z => of_decide_eq_false e1 (by exact Int.ofNat_le.mpr z)
            unfold isName
            rw [z]
            rfl)))⟩
        | true =>
          refine iteT ⟨_, _, rfl, rfl, _, rfl, ?_⟩
          have z1 : decide (1 ≤ x.cps.size) = true := decide_eq_true (Int.ofNat_le.mp (of_decide_eq_true e1))
          cases e3 : decide ((x.length : Int) ≤ 6) with
          | false => exact iteT (iteT (fin (by
              have z : decide (x.cps.size ≤ 6) = false := decide_eq_false fun z => of_decide_eq_false e3 (by exact Int.ofNat_le.mpr z)
              unfold isName
              rw [z1, z]
              rfl)))
          | true =>
            have z2 : decide (x.cps.size ≤ 6) = true := decide_eq_true (Int.ofNat_le.mp (of_decide_eq_true e3))
            refine iteF ⟨_, rfl, rfl, _, rfl, ?_⟩
            have et : decide (V.str x = V.str "t") = decide (x = "t") := by
              by_cases h : x = "t"
              · subst h; rw [decide_eq_true rfl, decide_eq_true rfl]
              · rw [decide_eq_false h, decide_eq_false fun z => h (V.str.inj z)]
            have en : isName x = (!decide (x = "t") && x.cps.toList.all fun c => decide (c ∈ LET.cps.toList)) := by
              unfold isName
              rw [z1, z2]
              rfl
            rw [show decide (V.str x = V.str (Str.ofString "t")) = decide (x = "t") from et]
            cases e4 : decide (x = ("t" : Str)) with
            | true => exact iteT (fin (by rw [en, e4]; rfl))
            | false =>
              rw [e4] at en
              refine iteF ⟨_, rfl, x, rfl, fun D nD => lc_it (D := D) walk_str (PB H D (x.cps.toList.map fun c => decide (c ∈ LET.cps.toList))) (PB.zero nD) (fun _ _ _ _ => trivial) ?_ ?_⟩
              · rintro i v H3 H4 hi p ⟨rfl, c, hcx, rfl⟩
                refine ⟨rfl, ?_⟩
                dsimp only [tYes]
                rw [if_pos rfl]
                refine ⟨_, rfl, c, LET, rfl, rfl, ?_⟩
                refine p.step (Same.refl _) nD (by omega) ?_
                rw [List.getElem?_map, Array.getElem?_toList, hcx]
                rfl
              · intro H3 p
                have hl : (x.cps.toList.map fun c => decide (c ∈ LET.cps.toList)).length = x.cps.size := by rw [List.length_map, Array.length_toList]
                rw [← hl] at p
                refine ⟨D, _, rfl, SqL.of p.all, ?_⟩
                have z := q H3 p.1
                rw [show isNameW (.str x) = isName x from rfl, en] at z
                rw [show (x.cps.toList.map fun c => decide (c ∈ LET.cps.toList)).all id = x.cps.toList.all fun c => decide (c ∈ LET.cps.toList) by rw [List.all_map]; rfl]
                exact z
    · rw [e1]
      have z := q H sr
      rw [e2] at z
      exact iteT (iteT z)
end
end Kn
-- part EnT
set_option maxHeartbeats 4000000
/-! enumerate of a tuple. -/
namespace EnT
open PySem PySem.Spec PyProof.Rows
open AutoSeq1 (wpAny_loadPart')
/-- the two cells that come -/
abbrev itO (l : Addr) : Obj := { cls := .type "tuple_iterator", data := .fields #[.ref l, .int 0 0] }
abbrev enO (a : Addr) : Obj := { cls := .type "enumerate", data := .fields #[.none, .bool false, .ref a, rawInt 0, .none, .none] }
theorem meets_new (l : Addr) (items : Array Value) (n : Nat) (dct : Option Addr) (sl : Array (Option Value)) :
    Meets (Builtin.«enumerate.__new__» ⟨[.type "enumerate", .ref l], []⟩) (fun _ R s => s.heap.get? l = some { cls := .type "tuple", dict := dct, data := .seq items n, slots := sl } ∧
      R (.ok (.ret (.ref (s.heap.push (itO l)).objs.size))) { s with heap := (s.heap.push (itO l)).push (enO s.heap.objs.size) }) := by
  refine .of_wp fun prog w A R s h => ?_
  obtain ⟨hp, g, d, tk, os⟩ := s
  obtain ⟨hl, h⟩ := h
  have hsub := sub_enumerate
  have hL : Heap.IsTuple (Shared.heap ⟨hp, g, d, tk, os⟩) l items := ⟨_, hl, rfl, n, rfl⟩
  wp_walk using wpAny_loadPart' hl
  refine wpAny_stack_any fun st => wpAny_pure ?_
  split
  · rename_i c _ _ _ _ _
    cases (c == Value.type "enumerate") <;>
    · wp_walk using wpAny_loadPart' hl, wpAny_pyIter_tuple hL
      exact ⟨_, rfl, h⟩
  · wp_walk using wpAny_loadPart' hl, wpAny_pyIter_tuple hL
    exact ⟨_, rfl, h⟩
section
variable {prog : Program} {w : World} {A : Around} {E : Value → Shared → Prop} {s : Shared}
theorem call_enum {l : Addr} {items : Array Value} {Q : Value → Shared → Prop} (hL : s.heap.IsTuple l items)
    (h : ∀ h', IsEnum h' (s.heap.objs.size + 1) s.heap.objs.size 0 .none → h'.IsTupleIter s.heap.objs.size l 0 → (∀ b o, s.heap.get? b = some o → h'.get? b = some o) → Q (.ref (s.heap.objs.size + 1)) { s with heap := h' }) :
    wpAny (model prog w) A (call (.type "enumerate") [.ref l]) Q E s := by
  obtain ⟨⟨c, dct, dt, sl⟩, hl, hc, n, hd⟩ := hL
  obtain rfl : c = .type "tuple" := hc
  obtain rfl : dt = .seq items n := hd
  have size1 : (s.heap.push (itO l)).objs.size = s.heap.objs.size + 1 := Heap.size_push ..
  have at1 : IsEnum ((s.heap.push (itO l)).push (enO s.heap.objs.size)) (s.heap.objs.size + 1) s.heap.objs.size 0 .none := by
    have z := Heap.get?_push_size (s.heap.push (itO l)) (o := enO s.heap.objs.size) rfl
    rw [size1] at z
    exact z
  refine callType_new F.called_enumerate (by decide) (F.typeCall_enumerate_1 _) (F.newCall_enumerate_1 _) (fun obj => F.args_object_init_2 obj _) F.entry_enumerate_new (meets_new l items n dct sl) ⟨hl, ?_⟩
  show _ ∧ _
  rw [size1]
  exact ⟨⟨_, at1, rfl⟩, h _ at1 ⟨_, Heap.get?_push_of_some _ (Heap.get?_push_size _ rfl), rfl, rfl⟩ fun b o x => Heap.get?_push_of_some _ (Heap.get?_push_of_some _ x)⟩
end
end EnT
namespace L2
open PySem PySem.Spec PyProof.Rows
/-- the tuple at a, each item in a new pair -/
def IteT (K : PySem.W.Frag) (a : Addr) : It where
  go := fun i H => ∃ (xs : List V) (x : V), SqT K H a xs ∧ xs[i]? = some x
  yld := fun i H v H' => ∃ T x, v = .ref T ∧ H T = none ∧ H' = upd H T (.tup [.int (i : Nat), x]) ∧ ∀ xs, SqT K H a xs → xs[i]? = some x
  stop := fun i H => ∃ xs : List V, SqT K H a xs ∧ xs.length = i
theorem turn_enumT {P : Program} {w : World} {K : PySem.W.Frag} {elts : List Expr} {kk : Nat} {tpos : Pos} (a e it : Addr) (hai : a ≠ it) (hae : a ≠ e) :
    Turn P w K (.Tuple elts kk tpos) (IteT K a) [e, it] e (fun i h => (∃ old, IsEnum h e it ((i : Nat) : Int) old) ∧ h.IsTupleIter it a i ∧ e ≠ it) := by
  constructor
  case mem => simp
  case obj =>
    rintro i h ⟨⟨old, he⟩, ⟨o, ho, hc, hd⟩, _⟩ b hb
    rcases List.mem_cons.mp hb with z | z
    · exact ⟨_, z ▸ he, fun v q => by cases q⟩
    · obtain rfl := List.mem_singleton.mp z
      exact ⟨o, ho, fun v q => by rw [hd] at q; cases q⟩
  case keep =>
    rintro i h h' ⟨⟨old, he⟩, hi, hne⟩ k
    exact ⟨⟨old, k e (by simp) _ he⟩, hi.at fun o q => k it (by simp) o q, hne⟩
  case self =>
    rintro A i s Q E ⟨⟨_, he⟩, _⟩ h
    exact wpAny_pyIter_enum he h
  case done =>
    rintro X rfl rfl rfl hc i pins s σ H E I hf ⟨⟨old, he⟩, hit, hne⟩ ⟨xs, hq, hx⟩
    obtain ⟨its, rv, p, hz⟩ := I.tuple hq
    obtain ⟨f0, f1, f2, f3, f4, f5⟩ := hf it (by simp)
    have hl := rv.length
    have D := Draws.tuple (prog := X.prog) (w := X.w) (A := X.A.in1) (I.ok.hd hc) it a hai its.toArray
    have e1 : i = its.toArray.size := by rw [List.size_toArray, ← hl]; exact hx.symm
    refine wpAny_pyNext_enum_endD D he (e1 ▸ ⟨hit, p⟩) fun h' eb => ⟨rfl, I.turned (t' := s.toks) (fun b o hb e => eb b o hb e) f0 f1 f3 f4 f5⟩
  case item =>
    rintro X rfl rfl rfl hc i pins s σ H E I hf ⟨⟨old, he⟩, hit, hne⟩ ⟨xs, x, hq, hx⟩
    obtain ⟨its, rv, p, hz⟩ := I.tuple hq
    obtain ⟨u, hu, ru⟩ := rv.get hx
    have hel : e < s.heap.objs.size := Heap.lt_size he
    have hil : it < s.heap.objs.size := by obtain ⟨_, q, _⟩ := hit; exact Heap.lt_size q
    have D := Draws.tuple (prog := X.prog) (w := X.w) (A := X.A.in1) (I.ok.hd hc) it a hai its.toArray
    have hi : i < its.toArray.size := by
      rw [List.size_toArray]
      exact (List.getElem?_eq_some_iff.mp hu).1
    refine wpAny_pyNext_enum_itemD D he ⟨hit, p⟩ hi hne (by simp [hne, Ne.symm hae]) fun y h' tk hy ho st' hT hsz hk => ?_
    have ey : y = u := by
      have z : its.toArray[i]? = some u := by simpa using hu
      rw [z] at hy
      exact (Option.some.inj hy).symm
    subst ey
    refine ⟨_, rfl, wpAny_letOwnedTupleGo_enum (s := { s with heap := h', toks := tk + 1 }) ho fun h2 he2 sb => ?_⟩
    have hT2 : h2.get? s.heap.objs.size = some { cls := .type "tuple", data := .seq #[.int i tk, y] } := (sb.2 _ (Nat.ne_of_gt hel)).trans hT
    have nT : H s.heap.objs.size = none := I.hok.fresh (Nat.le_refl _)
    have out : ∀ b ∈ [e, it], b < s.heap.objs.size := fun b hb => by
      rcases List.mem_cons.mp hb with z | z
      · rw [z]; exact hel
      · rw [List.mem_singleton.mp z]; exact hil
    have I1 : Inv X pins σ (upd H s.heap.objs.size (.tup [.int (i : Nat), x])) { s with heap := h2, toks := tk + 1 } := by
      refine I.turnedNew (ch := [e, it]) (fun b ob hb q => ?_) hf (Nat.le_refl _) ⟨by show 2 ≤ sizeLine; decide, [.int i tk, y], .cons ⟨_, rfl⟩ (.cons ru .nil), ⟨_, hT2, rfl, _, rfl⟩⟩
      have b1 : b ≠ e := fun z => hb (by simp [z])
      have b2 : b ≠ it := fun z => hb (by simp [z])
      exact (sb.2 b b1).trans (hk b ob b1 b2 q)
    refine ⟨.ref s.heap.objs.size, _, I1, rfl, ⟨_, x, rfl, nT, rfl, fun ys hy => by rw [I.tuple_inj hy hq]; exact hx⟩, ⟨⟨y, ?_⟩, st'.1.at fun o q => (sb.2 it (Ne.symm hne)).trans q, hne⟩, fun b hb => ?_⟩
    · rw [show ((i + 1 : Nat) : Int) = (i : Int) + 1 by omega]
      exact he2
    · rw [upd_ne (Nat.ne_of_lt (out b hb))]
      exact (hf b hb).1
/-- enumerate(tuple) -/
def iEnumT (K : PySem.W.Frag) (ta : TA) : TI := fun σ H R => ta σ H fun vs H1 => ∃ a xs, vs = [.ref a] ∧ SqT K H1 a xs ∧ R (IteT K a) H1
theorem pi_enumT {X : Cx} {e : Expr} {ta : TA} {p pos tpos : Pos} {elts : List Expr} {kk : Nat} (hg : Gl X "enumerate") (hm : X.mg "enumerate" = none) (ha : PA X [e] ta) (hs : starEach [e] X.env = [(false, eval e X.env)] := by rfl) :
    PI X (.Tuple elts kk tpos) (.Call (.Name "enumerate" p) [e] [] pos) (iEnumT X.K ta) := by
  constructor
  intro pins s σ H R I h
  refine Call_ (ld_blt I hg hm boot_enumerate (PyProof.Rows.callWith_type1 (thn (ha.run pos pins s σ H _ I h) ?_) hs rfl))
  rintro us s1 ⟨vs, H1, I1, r1, q1⟩
  obtain ⟨a, xs, rfl, hq, q⟩ := q1
  cases r1 with
  | cons r rr =>
    cases rr
    cases r
    obtain ⟨its, rv, p', hz⟩ := I1.tuple hq
    have hal : a < s1.heap.objs.size := p'.lt
    refine EnT.call_enum p' fun h' he hit hk => wpAny_pyIter_enum he ⟨s1.heap.objs.size + 1, [s1.heap.objs.size + 1, s1.heap.objs.size], _, _, H1, rfl, I1.kept (t' := s1.toks) hk,
      turn_enumT a (s1.heap.objs.size + 1) s1.heap.objs.size (Nat.ne_of_lt hal) (Nat.ne_of_lt (Nat.lt_succ_of_lt hal)), ⟨⟨.none, he⟩, hit, Nat.succ_ne_self _⟩, fun b hb => ?_, q⟩
    have hle : s1.heap.objs.size ≤ b := by
      rcases List.mem_cons.mp hb with z | z
      · rw [z]; exact Nat.le_succ _
      · rw [List.mem_singleton.mp z]; exact Nat.le_refl _
    exact I1.fpOk hle (I1.hok.fresh hle)
theorem walk_enumT {K : PySem.W.Frag} {a : Addr} {xs : List V} : Walk (IteT K a) xs.length (fun H => SqT K H a xs) (YPair (fun i => some (.int (i : Nat))) (fun i => xs[i]?)) := by
  constructor
  · intro i H hi q
    exact ⟨xs, xs[i], q, by simp [hi]⟩
  · intro H q
    exact ⟨xs, q, rfl⟩
  · rintro i H v H' _ q ⟨T, x, h1, h2, h3, h4⟩
    exact ⟨T, .int (i : Nat), x, h1, h2, h3, rfl, h4 xs q⟩
end L2
-- part Vr
set_option maxHeartbeats 4000000
namespace Kn
open PySem PySem.Spec PyProof.Rows L2
abbrev sTupOf : Stmt := topS 10
abbrev sKeyOf : Stmt := topS 12
abbrev sRow : Stmt := topS 13
theorem scTo : FnScope ["value", "many"] ["value", "many"] (defScope sTupOf) := ⟨rfl, rfl, rfl, by decide +kernel, rfl, by decide +kernel, by decide +kernel⟩
theorem scKo : FnScope ["value", "names"] ["value", "names"] (defScope sKeyOf) := ⟨rfl, rfl, rfl, by decide +kernel, rfl, by decide +kernel, by decide +kernel⟩
theorem scRo : FnScope ["kinds", "value"] ["kinds", "value"] (defScope sRow) := ⟨rfl, rfl, rfl, by decide +kernel, rfl, by decide +kernel, by decide +kernel⟩
def isTupOf (n : Int) : W → Bool
  | .tup ws => decide ((ws.length : Int) = n)
  | _ => false
def isKeyOf (ks : List (Key × V)) : W → Bool
  | .str x => (valV ks (.inr x)).isSome
  | _ => false
def isRowW (ks : List (Key × V)) : W → Bool
  | .tup [a, b] => isKeyOf ks a && isNum b
  | _ => false
theorem IsAll.len {H : Hp} : ∀ {vs : List V} {ws : List W}, IsAll H vs ws → vs.length = ws.length
  | _, _, .nil => rfl
  | _, _, .cons _ t => congrArg (· + 1) t.len
def spTupOf : Sp := fun vs H Q _ => ∃ v w n, vs = [v, .int n] ∧ Is H v w ∧ Q (.bl (isTupOf n w)) H
def spKeyOf : Sp := fun vs H Q _ => ∃ v w kd ks, vs = [v, .ref kd] ∧ Is H v w ∧ Rd H kd (.dK ks) ∧ Q (.bl (isKeyOf ks w)) H
def spRow : Sp := fun vs H Q _ => ∃ v w kd ks, vs = [.ref kd, v] ∧ Is H v w ∧ Rd H kd (.dK ks) ∧ Q (.bl (isRowW ks w)) H
section
variable {P : Program} {w : World} {K : PySem.W.Frag} {mg : Str → Option Value} {base : Heap}
theorem ok_tupOf {f : Addr} {fd : FuncData} (F : Fun K "is_tuple_of" "is_tuple_of" sTupOf f fd) (mi : mg "isinstance" = none) (m1 : mg "tuple" = none) (ml : mg "len" = none) : FnOk P w K mg base CX0 1 f fd ["value", "many"] spTupOf := by
  have S := scTo
  refine F.ok S (fun vs H Q E h => ?_) (fun cdv A outer s H vs Q E hr h => ?_)
  · obtain ⟨v, w, n, rfl, _⟩ := h
    rfl
  · obtain ⟨v, w, n, rfl, hv, q⟩ := h
    refine ⟨_, pss_one (ps_ret (pe_and (pe_callB call_isi (by rfl) mi PyProof.Rows.boot_isinstance (pa_cons (pv 0) (pa_cons (pe_bltn (v := .ty "tuple") (by rfl) m1 (by decide +kernel) rfl) pa_nil)))
      (pe_one (pe_cmpR op_eq (pe_callB call_len_seq (by rfl) ml PySem.boot_len (pa_cons (pv 0) pa_nil)) (pv 1) (nomark _))))), ?_⟩
    refine ⟨_, rfl, v, .ty "tuple", .type (tyN w), .type "tuple", isTy "tuple" w, rfl, .ty _, hv.ty, Is.kit (by decide), _, rfl, ?_⟩
    cases hv with
    | @tup a xs ws hz e t =>
      have e1 : isTy "tuple" (.tup ws) = true := by kernel_rfl
      rw [e1]
      refine iteT ⟨_, rfl, a, xs, rfl, .inr (.inl e), _, rfl, rfl, ?_⟩
      have e2 : decide (V.int (xs.length : Nat) = V.int n) = isTupOf n (.tup ws) := by
        rw [t.len]
        show _ = decide ((ws.length : Int) = n)
        by_cases h : (ws.length : Int) = n
        · rw [decide_eq_true h, decide_eq_true (by rw [h])]
        · rw [decide_eq_false h, decide_eq_false fun z => h (V.int.inj z)]
      rw [e2]
      exact q
    | non => exact iteF q
    | bl b => exact iteF q
    | int i => exact iteF q
    | str x _ _ => exact iteF q
    | lst _ _ _ => exact iteF q
    | dct _ _ _ => exact iteF q
theorem ok_keyOf {f : Addr} {fd : FuncData} (F : Fun K "is_key_of" "is_key_of" sKeyOf f fd) (mi : mg "isinstance" = none) (m1 : mg "str" = none) : FnOk P w K mg base CX0 1 f fd ["value", "names"] spKeyOf := by
  have S := scKo
  refine F.ok S (fun vs H Q E h => ?_) (fun cdv A outer s H vs Q E hr h => ?_)
  · obtain ⟨v, w, kd, ks, rfl, _⟩ := h
    rfl
  · obtain ⟨v, w, kd, ks, rfl, hv, hk, q⟩ := h
    have hu := hu_of hr
    refine ⟨_, pss_one (ps_ret (pe_and (pe_callB call_isi (by rfl) mi PyProof.Rows.boot_isinstance (pa_cons (pv 0) (pa_cons (pe_bltn (v := .ty "str") (by rfl) m1 (by decide +kernel) rfl) pa_nil)))
      (pe_one (pe_cmp (pc_din hu (pv 0) (pv 1)))))), ?_⟩
    refine ⟨_, rfl, v, .ty "str", .type (tyN w), .type "str", isTy "str" w, rfl, .ty _, hv.ty, Is.kit (by decide), _, rfl, ?_⟩
    cases hv with
    | str x hx hok =>
      have e1 : isTy "str" (.str x) = true := by kernel_rfl
      rw [e1]
      exact iteT ⟨_, rfl, _, rfl, kd, valV ks (.inr x), rfl, .inl ⟨ks, .inr x, hk, rfl, rfl⟩, q⟩
    | non => exact iteF q
    | bl b => exact iteF q
    | int i => exact iteF q
    | tup _ _ _ => exact iteF q
    | lst _ _ _ => exact iteF q
    | dct _ _ _ => exact iteF q
theorem ok_row {f f1 f2 f3 : Addr} {fd fd1 fd2 fd3 : FuncData} (F : Fun K "is_row" "is_row" sRow f fd) (G1 : FnOk P w K mg base CX0 1 f1 fd1 ["value", "many"] spTupOf) (k1 : PySem.W.keepIn K (.ref f1) = true) (b1 : Binds K fd1 ["value", "many"] []) (g1 : mg "is_tuple_of" = some (.ref f1))
    (G2 : FnOk P w K mg base CX0 1 f2 fd2 ["value", "names"] spKeyOf) (k2 : PySem.W.keepIn K (.ref f2) = true) (b2 : Binds K fd2 ["value", "names"] []) (g2 : mg "is_key_of" = some (.ref f2))
    (G3 : FnOk P w K mg base CX0 1 f3 fd3 ["value"] (spJ isNum)) (k3 : PySem.W.keepIn K (.ref f3) = true) (b3 : Binds K fd3 ["value"] []) (g3 : mg "is_number" = some (.ref f3)) : FnOk P w K mg base CX0 2 f fd ["kinds", "value"] spRow := by
  have S := scRo
  refine F.ok S (fun vs H Q E h => ?_) (fun cdv A outer s H vs Q E hr h => ?_)
  · obtain ⟨v, w, kd, ks, rfl, _⟩ := h
    rfl
  · obtain ⟨v, w, kd, ks, rfl, hv, hk, q⟩ := h
    refine ⟨_, pss_one (ps_ret (pe_and (pe_call G1 hr (by rfl) g1 k1 b1 .nil pass0 (pa_cons (pv 1) (pa_cons pe_int pa_nil)))
      (pe_and (pe_call G2 hr (by rfl) g2 k2 b2 .nil pass0 (pa_cons (pe_ix ix_tup (pv 1) pe_int (fun _ _ => rfl)) (pa_cons (pv 0) pa_nil)))
        (pe_one (pe_call G3 hr (by rfl) g3 k3 b3 .nil pass0 (pa_cons (pe_ix ix_tup (pv 1) pe_int (fun _ _ => rfl)) pa_nil)))))), ?_⟩
    refine ⟨_, rfl, v, w, 2, rfl, hv, _, rfl, ?_⟩
    cases hv with
    | @tup a xs ws hz e t =>
      cases t with
      | nil => exact iteF q
      | @cons va wa xs ws ha t =>
        cases t with
        | nil => exact iteF q
        | @cons vb wb xs ws hb t =>
          cases t with
          | @cons vc wc xs ws hc t =>
            have z : isTupOf 2 (.tup (wa :: wb :: wc :: ws)) = false := show decide (((wa :: wb :: wc :: ws).length : Int) = 2) = false from decide_eq_false (by simp only [List.length_cons]; omega)
            rw [z]
            exact iteF q
          | nil =>
            refine iteT ⟨_, rfl, a, _, 0, va, rfl, rfl, .inl e, rfl, _, rfl, va, wa, kd, ks, rfl, ha, hk, _, rfl, ?_⟩
            have eq : isRowW ks (.tup [wa, wb]) = (isKeyOf ks wa && isNum wb) := rfl
            rw [eq] at q
            cases e1 : isKeyOf ks wa with
            | false =>
              rw [e1] at q
              exact iteF q
            | true =>
              rw [e1] at q
              exact iteT ⟨_, rfl, a, _, 1, vb, rfl, rfl, .inl e, rfl, vb, wb, rfl, hb, q⟩
    | non => exact iteF q
    | bl b => exact iteF q
    | int i => exact iteF q
    | str x _ _ => exact iteF q
    | lst _ _ _ => exact iteF q
    | dct _ _ _ => exact iteF q
end
end Kn
-- part Rs
set_option maxHeartbeats 4000000
/-! Errors with an attribute, raised. -/
namespace Err
open PySem PySem.Spec PyProof.Rows L2 NdefX
section
variable {X : Cx} {C : Addr} {p x : Str} {e : Expr} {te : TE} {cp pos : Pos}
/-- the making of an error that is raised: class C, a new dict with the one attribute -/
def tRs (C : Addr) (p : Str) (te : TE) : L2.St → Hp → XK → Prop := fun σ H Q => te σ H fun v H1 => ∀ d, H1 d = none → Q (.ref C) (some d) (upd H1 d (.xd [(p, v)]))
theorem raises_of (T : One X.prog X.K C p) : Raises X (.ref C) := by
  obtain ⟨fI, cc, cd, st, qual, msg, q1, q2, q3, q4, q5, q6, q7, q8, q9, q10, pl, M, _⟩ := T.ex
  exact raises_own M.T.exC M.T.tyC
theorem pmk_err (T : One X.prog X.K C p) (ms : X.mg "super" = none) (hr : Room 1 X.A) (hg : Gl X x) (hm : X.mg x = some (.ref C)) (kC : PySem.W.keepIn X.K (.ref C) = true) (he : PE X e te)
    (hs : starEach [e] X.env = (false, eval e X.env) :: starEach [] X.env := by rfl) (hdb : (x == ("__debug__" : Str)) = false := by decide) : PMk X (.Call (.Name x cp) [e] [] pos) (tRs C p te) := by
  intro pins s σ H Q I h
  refine wpAny_Call_Name_kw (ld_glob I hg hm ?_ hdb)
  refine PySem.W.callWith_K (h₀ := X.base) I.ok.mod.kin kC ?_ hs (by rfl)
  rw [hs]
  show wpAny _ _ (spliced ((false, eval e X.env) :: backTo pos (starEach [] X.env))) _ _ s
  refine Calls.spliced_cons (thn (he.run pins s σ H _ I h) fun u s1 ⟨v, H1, I1, ru, q1⟩ => ?_)
  refine Calls.spliced_nil ⟨I1.kIn, ?_⟩
  obtain ⟨fI, cc, cd, st, qual, msg, p1, p2, p3, p4, p5, p6, p7, p8, p9, p10, pl, M, S, hb, hev, hks, hpa, hpd, hpc, hsw, b1, b2⟩ := T.ex
  obtain ⟨nm, q, N, bs, bm, sn, sub, ab, col, dd, k0, k1, k2, k3, k5, hC, hbm⟩ := M.T.cls
  obtain ⟨hp, g, dr, tk, os⟩ := s1
  have hsz : hp.objs.size ≤ hp.objs.size + 1 := Nat.le_succ _
  have hn : H1 (hp.objs.size + 1) = none := I1.hok.fresh hsz
  have kk : ∀ b o, hp.get? b = some o → ((hp.push (PySem.W.kdv_tup [u])).push (PySem.HandSPX.excO C hp.objs.size)).get? b = some o := fun b o z => Heap.get?_push_of_some _ (Heap.get?_push_of_some _ z)
  have hget : ((hp.push (PySem.W.kdv_tup [u])).push (PySem.HandSPX.excO C hp.objs.size)).get? (hp.objs.size + 1) = some (PySem.HandSPX.excO C hp.objs.size) := by heap_get
  have I2 : Inv X pins σ (upd H1 (hp.objs.size + 1) (exo (hp.objs.size + 1) C none)) ⟨(hp.push (PySem.W.kdv_tup [u])).push (PySem.HandSPX.excO C hp.objs.size), g, dr, tk, os⟩ :=
    I1.laid (t' := tk) (a := hp.objs.size + 1) (o := exo (hp.objs.size + 1) C none) (h' := (hp.push (PySem.W.kdv_tup [u])).push (PySem.HandSPX.excO C hp.objs.size)) kk hsz (exo_ok hget)
  have hT := fun Y => PySem.HandSPX.refsVE_contains Y bm hbm
  have last : ∀ d, upd H1 (hp.objs.size + 1) (exo (hp.objs.size + 1) C none) d = none → d ≠ hp.objs.size + 1 →
      V.non = V.non ∧ ∃ d', upd (upd (upd H1 (hp.objs.size + 1) (exo (hp.objs.size + 1) C none)) d (exd d [(p, v)])) (hp.objs.size + 1) (exo (hp.objs.size + 1) C (some d)) = upd (upd (upd H1 (hp.objs.size + 1) (exo (hp.objs.size + 1) C none)) d' (exd d' [(p, v)])) (hp.objs.size + 1) (exo (hp.objs.size + 1) C (some d')) ∧ H1 d' = none ∧ d' ≠ hp.objs.size + 1 := fun d nd ne => by
    rw [upd_ne ne] at nd
    exact ⟨rfl, d, rfl, nd, ne⟩
  refine wpAny_call (PySem.HandSPX.call_own F.excBase_ValueError hT (I1.kIn _ _ hC) (PySem.W.looks_findIn I1.kIn M.iC) (fun self => PySem.W.bind_fn I1.kIn self M.tI) (by show 1 ≤ sizeLine; decide)
      (codeAny_mono (init_code (E := fun _ _ _ => False) (Q := fun v' H' => v' = V.non ∧ ∃ d', H' = upd (upd (upd H1 (hp.objs.size + 1) (exo (hp.objs.size + 1) C none)) d' (exd d' [(p, v)])) (hp.objs.size + 1) (exo (hp.objs.size + 1) C (some d')) ∧ H1 d' = none ∧ d' ≠ hp.objs.size + 1)
        M S hb hev hks hpa hpd hpc hsw ms (hr.make C [u] []) (I2.env0.make C [u] []) upd_same ru (fun kV doc pm an ct => .of_eq (b1 _ _ _ _ _ _ _)) last) fun r s' hq' => ?_))
  cases r with
  | error er => exact False.elim hq'
  | ok fl =>
    cases fl with
    | ret w' =>
      obtain ⟨v', H2, os2, bare2, un2, hok2, rv, ev, d, eH, hd1, hda⟩ := hq'
      subst ev
      subst eH
      obtain ⟨h2, g2, d2, t2, os'⟩ := s'
      have ed : (upd (upd (upd H1 (hp.objs.size + 1) (exo (hp.objs.size + 1) C none)) d (exd d [(p, v)])) (hp.objs.size + 1) (exo (hp.objs.size + 1) C (some d))) d = some (exd d [(p, v)]) := by rw [upd_ne hda, upd_same]
      refine ⟨rv, mk_end (raises_own M.T.exC M.T.tyC) I1 hsz kk un2 hok2 os2 bare2 upd_same ed hd1 ?_⟩
      have eq : upd (del (upd (upd (upd H1 (hp.objs.size + 1) (exo (hp.objs.size + 1) C none)) d (exd d [(p, v)])) (hp.objs.size + 1) (exo (hp.objs.size + 1) C (some d))) (hp.objs.size + 1)) d (.xd [(p, v)]) = upd H1 d (.xd [(p, v)]) := by
        funext b
        by_cases e1 : b = d
        · rw [e1, upd_same, upd_same]
        · rw [upd_ne e1, upd_ne e1]
          by_cases e2 : b = hp.objs.size + 1
          · rw [e2, del_same, hn]
          · rw [del_ne e2, upd_ne e2, upd_ne e1, upd_ne e2]
      rw [eq]
      exact q1 d hd1
    | next => exact False.elim hq'
    | brk => exact False.elim hq'
    | cont => exact False.elim hq'
end
end Err
-- part Kp
set_option maxHeartbeats 4000000
/-! A caught error that outlives its suite. -/
namespace Err
open PySem PySem.Spec PyProof.Rows L2 NdefX
/-- an error that was caught: of the class cls, its dict d -/
def exq (a : Addr) (cls : Value) (d : Option Addr) : HO := .ext fun h => ∃ (oe : Obj) (vs : Array Value), h.get? a = some oe ∧ Zc cls d oe ∧ oe.data = .fields vs
theorem exq_ok {P : Program} {w : World} {H : Hp} {h : Heap} {a : Addr} {cls : Value} {d : Option Addr} {oe : Obj} (e : h.get? a = some oe) (z : Zc cls d oe) (f : ∃ vs, oe.data = .fields vs) : ObjOk P w H h a (exq a cls d) := by
  obtain ⟨vs, f⟩ := f
  exact ⟨⟨oe, vs, e, z, f⟩, ⟨oe, e⟩, fun h1 h2 ⟨o, us, e1, z1, f1⟩ st => ⟨o, us, st o e1, z1, f1⟩⟩
section
variable {X : Cx} {pins : List (Addr × Obj)} {σ : L2.St} {H : Hp} {s : Shared}
/-- what was pinned is tracked from here on -/
theorem track {a : Addr} {oe : Obj} {o : HO} (I : L2.Inv X ((a, oe) :: pins) σ H s) (n0 : X.s_0.heap.get? a = none) (np : ∀ p ∈ X.pn ++ pins, p.1 ≠ a) (new : ObjOk X.prog X.w (upd H a o) s.heap a o) : L2.Inv X pins σ (upd H a o) s := by
  obtain ⟨_, hn, hL, hF, hcell⟩ := I.pin (a, oe) (by simp)
  have ha := (I.pin (a, oe) (by simp)).1
  have fresh : ∀ b u, X.s_0.heap.get? b = some u → b ≠ a := fun b u e z => by rw [z, n0] at e; cases e
  constructor
  · exact I.ok
  · exact I.os
  · exact I.bare
  · constructor
    · exact I.base.keep
    · exact I.base.slot
    · intro b u e n x
      rw [upd_ne (fresh b u e)]
      exact I.base.free b u e n x
    · exact I.base.there
    · intro b xs e
      have z := I.base.tups b xs e
      rw [upd_ne (ne_of_none z hn)]
      exact z
    · intro b u v e
      have z := I.base.frzs b u v e
      rw [upd_ne (ne_of_none z hn)]
      exact z
    · intro b ps e
      obtain ⟨m, z⟩ := I.base.tbls b ps e
      exact ⟨m, by rw [upd_ne (ne_of_none z hn)]; exact z⟩
  · exact I.loc
  · exact I.cell
  · rw [upd_ne (Ne.symm hL)]
    exact I.free
  · intro x c e
    have z : c ≠ a := fun z => by
      obtain ⟨v, o', ho, hd⟩ := I.cell x c e
      rw [z, ha] at ho
      cases ho
      exact hcell v hd
    rw [upd_ne z]
    exact I.freeC x c e
  · intro p hp
    have q : p ∈ X.pn ++ (a, oe) :: pins := by
      rcases List.mem_append.mp hp with y | y
      · exact List.mem_append_left _ y
      · exact List.mem_append_right _ (List.mem_cons_of_mem _ y)
    obtain ⟨e1, e2, e3⟩ := I.pin p q
    exact ⟨e1, by rw [upd_ne (np p hp)]; exact e2, e3⟩
  · exact I.hok.laidN (fun _ _ e => e) hn new
  · exact I.len
/-- in flight: all that a suite and what comes behind it must know of the error -/
theorem flown {B : Heap} {a : Addr} {cls : Value} {d : Option Addr} {sI sN : Shared} {h : Heap} (J : L2.Inv X pins σ H sI) (ground : ∀ b o, sI.heap.get? b = some o → b ∉ frs X.stack → B.get? b = some o) (hs : X.stack = X.env :: X.outer)
    (hf : X.env.frame = some X.env.locals) (hx : X.ex = []) (fl : PySem.HandSPX.FlyingZ B (X.env :: X.outer) a (Zc cls d) h) (up : sI.heap.UpToSlots h) (os : sN.os = sI.os) (ag : AllBare sN.gens) (na : H a = none) :
    ∃ oe : Obj, (∃ vs, oe.data = .fields vs) ∧ Zc cls d oe ∧ h.get? a = some oe ∧ L2.Inv (X.suite a ((a, oe) :: (X.pn ++ pins))) [] σ H { sN with heap := h } ∧ X.s_0.heap.get? a = none ∧ (∀ p ∈ X.pn ++ pins, p.1 ≠ a) ∧ L2.Inv X pins σ H { sN with heap := h } := by
  obtain ⟨oe, vs, ho, hz, hd⟩ := fl.there
  have out : a ∉ frs (X.env :: X.outer) := fun m => by
    obtain ⟨_, o2, e2, hne⟩ := fl.2.2.1.mem m
    rw [ho] at e2
    exact hne vs (by cases e2; exact hd)
  have gone : sI.heap.get? a = none := by
    cases e : sI.heap.get? a with
    | none => rfl
    | some o =>
      have z := ground a o e (by rw [hs]; exact out)
      rw [fl.2.1] at z
      cases z
  have K : L2.Inv X pins σ H { sN with heap := h } := J.landed ground fl.1 up os ag
  refine ⟨oe, ⟨vs, hd⟩, hz, ho, K.suite ho hd na (fun z => out ?_) (fun m => out ?_), ?_, fun p hp z => ?_, K⟩
  · exact List.mem_filterMap.mpr ⟨X.env, List.mem_cons_self, by rw [hf, z]⟩
  · obtain ⟨e, he, q⟩ := List.mem_filterMap.mp m
    exact List.mem_filterMap.mpr ⟨e, List.mem_cons_of_mem _ he, q⟩
  · cases e : X.s_0.heap.get? a with
    | none => rfl
    | some o =>
      obtain ⟨o2, e2⟩ := J.base.there a o e (by rw [hx]; exact fun z => nomatch z)
      rw [gone] at e2
      cases e2
  · have e := (J.pin p hp).1
    rw [z, gone] at e
    cases e
end
/-- try: body, except x as n: suite, where all that the body raises is of the class c: what was caught stands on, tracked -/
def wKp (K : PySem.W.Frag) (c : Value) (i : Nat) (ts : Addr → Value → Option Addr → TS) (D : Ends) : WX := fun cls d σ H =>
  PySem.W.exmOne K cls c = some true ∧ ∀ a, H a = none → ts a cls d { nx := fun σ' H' => H' a = none → D.nx (σ'.set i none) (upd H' a (exq a cls d)), rt := fun _ _ => False, bk := fun _ _ => False, ct := fun _ _ => False } (σ.set i (some (.ref a))) H
section
variable {X : Cx} {x n : Str} {c : Value} {i : Nat} {body suite : List Stmt} {b₀ : Stmt} {np pos pos' : Pos} {tb : WX → TS} {ts : Addr → Value → Option Addr → TS}
theorem ps_keep (hs : X.stack = X.env :: X.outer) (hf : X.env.frame = some X.env.locals) (hx : X.ex = []) (hN : X.N.Nodup) (hi : X.N[i]? = some n) (hln : X.env.kindOf n = some .local) (hc : Names X x c)
    (hb : ∀ (W : WX) (pn : List (Addr × Obj)) (xe : Value → Shared → Prop), Takes (X.tr pn xe) W → PassesOwn (model X.prog X.w) X.A X.env xe → PSs (X.tr pn xe) body (tb W))
    (hsu : ∀ (a : Addr) (oe : Obj) (cls : Value) (d : Option Addr) (pn : List (Addr × Obj)), Zc cls d oe → (∃ vs, oe.data = .fields vs) → PSs (X.suite a ((a, oe) :: pn)) (b₀ :: suite) (ts a cls d)) :
    PS X (.Try body [.ExceptHandler (some (.Name x np)) (some n) (b₀ :: suite) pos'] [] [] pos) (fun D σ H => tb (wKp X.K c i ts D) D σ H) := by
  constructor
  intro pins s σ H D I h
  have good := I.ok
  have top : X.A.frames = some (X.env :: X.outer) := by rw [good.frames, hs]
  refine wpAny_Try_except ?_
  refine wpAny_mono ((hb (wKp X.K c i ts D) (X.pn ++ pins) (fun e s₁ => wpAny (model X.prog X.w) X.A (noteFrame e X.env) (fun _ s₂ => wpAny (model X.prog X.w) X.A (setFlight e none) (fun _ s₃ =>
    wpAny (model X.prog X.w) X.A (handleBy e X.env [.ExceptHandler (some (.Name x np)) (some n) (b₀ :: suite) pos']) (SP X pins D) X.xe s₃) X.xe s₂) X.xe s₁) ?held PassesOwn.looking).run [] s σ H D (I.toTry _) h) ?plain fun _ _ z => z
  case plain =>
    intro f s1 end_
    cases f with
    | ret u =>
      obtain ⟨v, σ', H', K, r, q⟩ := end_
      exact ⟨v, σ', H', K.ofTry good, r, q⟩
    | next =>
      obtain ⟨σ', H', K, q⟩ := end_
      exact wpAny_execs_nil ⟨σ', H', K.ofTry good, q⟩
    | cont =>
      obtain ⟨σ', H', K, q⟩ := end_
      exact ⟨σ', H', K.ofTry good, q⟩
    | brk =>
      obtain ⟨σ', H', K, q⟩ := end_
      exact ⟨σ', H', K.ofTry good, q⟩
  case held =>
    rintro u sN ⟨a, B, sI, pins2, σ2, H2, cls, d, rfl, J, ground, up, sky, na, os, ag, match_, go⟩
    have J := J.ofTry good
    have sky : Sky B (X.env :: X.outer) a (Zc cls d) X.env.locals sN.heap := by rw [← hs]; exact sky
    refine Sky.land Zc.steady top hf sky fun h3 fl3 up3 => ?_
    obtain ⟨oe3, fd3, z3, at3, S3, _, _, K3⟩ := flown J ground hs hf hx fl3 (up.trans up3) os ag na
    refine wpAny_handleBy_cons (codeAny_handlers_test ?_) (by intro q; cases q)
    have cl : PySem.W.Looks (model X.prog X.w) h3 (typeOf (.ref a)) cls := fun A Q E s k q => wpAny_typeOf_ref (k _ _ at3) (by rw [z3.1]; exact q)
    have asked : ∀ {Q : Value → Shared → Prop} {E : Value → Shared → Prop}, Q c { sN with heap := h3 } → wpAny (model X.prog X.w) (X.A.mark (some (.ref a))) (eval (.Name x np) X.env) Q E { sN with heap := h3 } := by
      intro Q E q
      obtain ⟨hg, hdbg, hm⟩ := hc
      rcases hm with hm | ⟨hm, hv, hnn⟩
      · exact ld_glob (X := X.suite a ((a, oe3) :: (X.pn ++ pins))) S3 hg hm q hdbg
      · exact ld_blt (X := X.suite a ((a, oe3) :: (X.pn ++ pins))) S3 hg hm hv q hnn hdbg
    refine asked ((PySem.W.exm_one (M := model X.prog X.w) K3.kIn cl match_).here (codeAny_handlers_suite_as (PySem.HandSPX.lands_againZ fl3 fun h4 fl4 up4 => ?_)))
    obtain ⟨oe4, fd4, z4, at4, S4, new4, other4, _⟩ := flown J ground hs hf hx fl4 ((up.trans up3).trans up4) os ag na
    refine store_ok (X := X.suite a ((a, oe4) :: (X.pn ++ pins))) (v := .ref a) S4 hN hi (.inl hln) rfl (fun s5 S5 => ?_) (.inr hln)
    refine wpAny_mono ((hsu a oe4 cls d (X.pn ++ pins) z4 fd4).run [] s5 _ H2 _ S5 (go a na)) ?_ fun _ _ z => z.elim
    intro f s6 end_
    cases f with
    | brk =>
      obtain ⟨_, _, _, z⟩ := end_
      exact z.elim
    | cont =>
      obtain ⟨_, _, _, z⟩ := end_
      exact z.elim
    | ret u =>
      obtain ⟨_, _, _, _, _, z⟩ := end_
      exact z.elim
    | next =>
      obtain ⟨σ6, H6, S6, q6⟩ := end_
      have pinned : L2.Inv X ((a, oe4) :: pins) σ6 H6 s6 := by
        refine ⟨good, S6.os, S6.bare, S6.base, S6.loc, S6.cell, S6.free, S6.freeC, fun p hp => S6.pin p ?_, S6.hok, S6.len⟩
        rw [List.append_nil]
        rcases List.mem_append.mp hp with y | y
        · exact List.mem_cons_of_mem _ (List.mem_append_left _ y)
        · rcases List.mem_cons.mp y with y | y
          · rw [y]; exact List.mem_cons_self
          · exact List.mem_cons_of_mem _ (List.mem_append_right _ y)
      refine gone_ok pinned hN hi hln fun s7 S7 => ?_
      have p7 := S7.pin (a, oe4) (by simp)
      exact ⟨_, _, track S7 new4 other4 (exq_ok p7.1 z4 fd4), q6 p7.2.1⟩
end
end Err
-- part Cq
set_option maxHeartbeats 4000000
/-! A caught error: asked by isinstance, its attribute read. -/
namespace Err
open PySem PySem.Spec PyProof.Rows L2 NdefX
/-- at a a caught error of the class at C, with attributes -/
def QAt (H : Hp) (a C : Addr) (fs : List (Str × V)) : Prop := ∃ d, H a = some (exq a (.ref C) (some d)) ∧ H d = some (.xd fs)
theorem QAt.same {H H' : Hp} {a C : Addr} {fs : List (Str × V)} (h : QAt H a C fs) (s : ∀ b o, H b = some o → H' b = some o) : QAt H' a C fs := by
  obtain ⟨d, e1, e2⟩ := h
  exact ⟨d, s _ _ e1, s _ _ e2⟩
section
variable {X : Cx} {e : Expr} {te : TE} {pos : Pos}
theorem QAt.inst {pins : List (Addr × Obj)} {σ : L2.St} {H : Hp} {s : Shared} {a C : Addr} {fs : List (Str × V)} (I : L2.Inv X pins σ H s) (h : QAt H a C fs) :
    ∃ (ox od : Obj) (mA : Str → Option Value), PySem.W.InstAt s.heap a ox C (some od) ∧ (∀ n, PySem.W.lookIn n od = some (mA n)) ∧ ∀ n, RelO (fs.lookup n) (mA n) := by
  obtain ⟨d, e1, e2⟩ := h
  obtain ⟨⟨oe, vs, ho, z, hd⟩, _, _⟩ := I.hok _ _ e1
  obtain ⟨mA, hns, hr⟩ : ∃ mA, s.heap.Ns1 d mA ∧ ∀ f, RelO (fs.lookup f) (mA f) := I.hok _ _ e2
  obtain ⟨od, hod, hl⟩ := lookIn_ns hns
  refine ⟨oe, od, mA, ⟨ho, z.1, ?_, ?_⟩, hl, hr⟩
  · unfold PySem.W.notCls
    rw [hd]
  · rw [z.2]
    exact hod
def rIsq (K : PySem.W.Frag) : List V → Hp → VK → Prop := fun xs H Q => ∃ (a C : Addr) (fs : List (Str × V)) (c : V) (cv : Value) (b : Bool), xs = [.ref a, c] ∧ QAt H a C fs ∧ Isi K C ∧ ClsV c cv ∧ PySem.W.kitOne K (.ref C) cv = some b ∧ Q (.bl b) H
theorem call_isq : CallR X (.builtin "isinstance") (rIsq X.K) := by
  rintro pins s σ H xs us Q I r ⟨a, C, fs, c, cv, b, rfl, hx, T, hcv, e, q⟩
  obtain ⟨ox, od, mA, J, _, _⟩ := hx.inst I
  cases r with
  | cons rx rs =>
    cases rs with
    | cons rt rn =>
      cases rn
      cases rx
      cases hcv.eq rt
      exact PySem.W.kia_one (PySem.W.kitx_exc T.cl T.ga T.gt T.sb T.ca T.gs T.tk T.ob) I.kIn J e (fun z => nomatch z) fun tk => ⟨.bl b, H, I.kept (t' := tk) fun _ _ z => z, rfl, q⟩
def tAttq (K : PySem.W.Frag) (n : Str) (te : TE) : TE := fun σ H Q => te σ H fun x H1 => ∃ (a C : Addr) (fs : List (Str × V)) (v : V), x = .ref a ∧ QAt H1 a C fs ∧ Isi K C ∧ PySem.W.findIn K (.ref C) n = some none ∧ fs.lookup n = some v ∧ Q v H1
theorem pe_attq {n : Str} (he : PE X e te) (hb : attributeBase e n X.env (eval e X.env) = eval e X.env := by rfl) : PE X (.Attribute e n pos) (tAttq X.K n te) := by
  constructor
  intro pins s σ H Q I h
  refine attr_of hb (thn (he.run pins s σ H _ I h) ?_)
  rintro u s1 ⟨x, H1, I1, rx, a, C, fs, v, ex, hx, T, no, l, q⟩
  subst ex
  obtain rfl : u = Value.ref a := rx
  obtain ⟨ox, od, mA, J, hl, hr⟩ := hx.inst I1
  obtain ⟨w, hw, rw'⟩ := RelO.some_of (v := v) (o := mA n) (by rw [← l]; exact hr n)
  exact PySem.HandSPX.exc_get I1.kIn J T.ga T.gt T.sb (PySem.W.findObj_own T.hd no rfl (by rw [hl n, hw])) (handed_of rw') ⟨v, H1, I1.tok _, rw', q⟩
end
end Err
-- part Cg
set_option maxHeartbeats 4000000
/-! The law's def that calls a lambda and gives back the error that it raises. -/
namespace Err
open PySem PySem.Spec PyProof.Rows L2 NdefX LamX
theorem takes_len {X : Cx} {W : WX} (t : Takes X W) : Takes X (fun cls d σ H => σ.length = X.N.length → W cls d σ H) := by
  rintro u s' ⟨a, B, sI, pins, σ, H, cls, d, e1, I, r1, r2, r3, r4, r5, r6, w⟩
  exact t u s' ⟨a, B, sI, pins, σ, H, cls, d, e1, I, r1, r2, r3, r4, r5, r6, w I.len⟩
/-- what becomes of a lambda: its error, or None -/
def TCaught (K : PySem.W.Frag) (CS : Addr) : (XK → Hp → VK → Prop) → Hp → VK → Prop := fun tl H Q =>
  tl (fun cls d H' => PySem.W.exmOne K cls (.ref CS) = some true ∧ ∀ a, H' a = none → Q (.ref a) (upd H' a (exq a cls d))) H fun _ H' => ∃ v, (some (some V.non) : Option (Option V)) = some (some v) ∧ Q v H'
abbrev NCa : List Str := ["_law_work", "_law_caught_here", "_law_error"]
abbrev sCaught : Stmt := Kn.topS 26
theorem scCa : FnScope NCa ["_law_work"] (defScope sCaught) := ⟨rfl, rfl, rfl, by decide +kernel, rfl, by decide +kernel, by decide +kernel⟩
theorem caught_gives {X : Cx} {q : Str} {g CS : Addr} {cdg : Value} (hme : X.mg "StillError" = some (.ref CS)) : GivesTo X NCa "_law_caught" (defScope sCaught) g cdg (defBody sCaught) "_law_work" q (TCaught X.K CS) := by
  intro f c' s H Q tl act hc h
  refine ⟨_, pss_cons (ps_set (i := 1) scCa.nd rfl (.inl rfl) pe_non)
    (pss_cons (ps_keep (X := (cxOf C8.CX0 X.prog X.w X.K X.mg X.base NCa "_law_caught" (defScope sCaught) g cdg X.A X.stack s H C8.E0).nox) (i := 2) (c := .ref CS)
      (tb := fun W D σ H => ∃ Ech : XK, (∀ cls d σ' H', σ'.length = 3 → Ech cls d H' → W cls d σ' H') ∧ σ[0]? = some (some (.ref f)) ∧ H c' = some (CodeO c' q) ∧ tl Ech H fun _ H' => D.nx σ H')
      rfl rfl rfl scCa.nd rfl rfl ⟨rfl, rfl, .inl hme⟩ (fun W pn xe tk _ => ?_) (fun a oe cls d pn _ _ => pss_one (ps_set (i := 1) scCa.nd rfl (.inl rfl) (pv 2))))
    (pss_one (ps_ret (pv 1)))), ?_⟩
  · constructor
    rintro pins s' σ H' D I ⟨Ech, hW, h1, h2, h3⟩
    exact (pss_one (ps_expr (act (fun cls d σ H => σ.length = 3 → W cls d σ H) pn xe Ech _ _ (takes_len tk) fun cls d σ' H' e hl => hW cls d σ' H' hl e))).run pins s' σ H' D I ⟨h1, h2, h3⟩
  · refine ⟨fun cls d H' => PySem.W.exmOne X.K cls (.ref CS) = some true ∧ ∀ a, H' a = none → Q (.ref a) (upd H' a (exq a cls d)), fun cls d σ' H' hl z => ?_, rfl, hc, h⟩
    obtain ⟨x, y, w, rfl⟩ : ∃ x y w, σ' = [x, y, w] := by
      match σ', hl with
      | [x, y, w], _ => exact ⟨x, y, w, rfl⟩
    exact ⟨z.1, fun a na => ⟨_, rfl, fun na' => ⟨_, rfl, z.2 a na⟩⟩⟩
end Err
-- part Vc
set_option maxHeartbeats 8000000
namespace Kn
open PySem PySem.Spec PyProof.Rows L2 Err
theorem pi_both {X : Cx} {tg e : Expr} {t u : L2.TI} (h1 : PI X tg e t) (h2 : PI X tg e u) : PI X tg e (fun σ H R => t σ H R ∨ u σ H R) := ⟨fun pins s σ H R I h => by
  rcases h with h | h
  · exact h1.run pins s σ H R I h
  · exact h2.run pins s σ H R I h⟩
theorem IsAll.get {H : Hp} : ∀ {vs : List V} {ws : List W} {i : Nat} {x : V}, IsAll H vs ws → vs[i]? = some x → ∃ w, ws[i]? = some w ∧ Is H x w
  | _, _, 0, x, .cons h _, e => by
    cases e
    exact ⟨_, rfl, h⟩
  | _, _, i + 1, x, .cons _ t, e => by
    obtain ⟨w, e1, e2⟩ := t.get (i := i) (by simpa using e)
    exact ⟨w, by simpa using e1, e2⟩
/-- at a a list or a tuple -/
def SqA (H : Hp) (a : Addr) (xs : List V) : Prop := H a = some (.lst xs) ∨ Rd H a (.tup xs)
/-- what is wrong of rows: None, or the place of the first -/
def badAt (ks : List (Key × V)) : W → Option V
  | .lst ws => (ws.findIdx? fun w => !isRowW ks w).map fun i => V.int i
  | .tup ws => (ws.findIdx? fun w => !isRowW ks w).map fun i => V.int i
  | _ => some .non
def spRows (CR : Addr) : Sp := fun vs H Q E => ∃ v w kd ks, vs = [.ref kd, v] ∧ Is H v w ∧ H kd = some (.dK ks) ∧
  (∀ r, badAt ks w = some r → ∀ d H', Same H H' → H' d = none → E (.ref CR) (some d) (upd H' d (.xd [("at", r)]))) ∧
  (badAt ks w = none → ∀ a xs l H', v = .ref a → SqA H a xs → Same H H' → H' l = none → Q (.ref l) (upd H' l (.lst xs)))
abbrev sRows : Stmt := topS 14
abbrev NRs : List Str := ["kinds", "rows", "at", "row"]
theorem scRs : FnScope NRs ["kinds", "rows"] (defScope sRows) := ⟨rfl, rfl, rfl, by decide +kernel, rfl, by decide +kernel, by decide +kernel⟩
def spIsList : Sp := fun vs H Q _ => ∃ v w, vs = [v] ∧ Is H v w ∧ ∀ H', Same H H' → Q (.bl (isSeq w)) H'
section
variable {P : Program} {w : World} {K : PySem.W.Frag} {mg : Str → Option Value} {base : Heap}
theorem ok_rows {f f1 f2 CR : Addr} {fd fd1 fd2 : FuncData} (F : Fun K "checked_rows" "checked_rows" sRows f fd) (G1 : FnOk P w K mg base CX0 1 f1 fd1 ["value"] spIsList) (k1 : PySem.W.keepIn K (.ref f1) = true) (b1 : Binds K fd1 ["value"] []) (g1 : mg "is_list" = some (.ref f1))
    (G2 : FnOk P w K mg base CX0 2 f2 fd2 ["kinds", "value"] spRow) (k2 : PySem.W.keepIn K (.ref f2) = true) (b2 : Binds K fd2 ["kinds", "value"] []) (g2 : mg "is_row" = some (.ref f2))
    (T : One P K CR "at") (ms : mg "super" = none) (gR : mg "BadRows" = some (.ref CR)) (kR : PySem.W.keepIn K (.ref CR) = true) (me : mg "enumerate" = none) (ml : mg "list" = none) :
    FnOk P w K mg base (L2.CX P w) 3 f fd ["kinds", "rows"] (spRows CR) := by
  have S := scRs
  refine F.okX S (fun vs H Q E h => ?_) (fun cdv A outer s H vs Q E hr h => ?_)
  · obtain ⟨v, u, kd, ks, rfl, _⟩ := h
    rfl
  · obtain ⟨v, u, kd, ks, rfl, hv, hk, hE, hQ⟩ := h
    have hu := hu_of hr
    have hr1 := hr.mono (show 1 ≤ 2 by decide)
    have tk : Takes (cxOf (L2.CX P w) P w K mg base NRs "checked_rows" (defScope sRows) f cdv A outer s H E) (fun cls d _ H => E cls d H) := takes_of rfl rfl rfl rfl
    have pl : Passes CX0 (cxOf (L2.CX P w) P w K mg base NRs "checked_rows" (defScope sRows) f cdv A outer s H E) E0 := pass0
    refine ⟨_, pss_cons (ps_if (pt_not (pt_val (pe_call G1 hr1 (by rfl) g1 k1 b1 .nil pass0 (pa_cons (pv 1) pa_nil)))) (pss_one (ps_raise rfl tk (pmk_err T ms hr1 (by rfl) gR kR pe_non))) pss_nil)
      (pss_cons (ps_for (passes_of rfl) rfl (pi_both (pi_enum (by rfl) me (pa_cons (pv 1) pa_nil)) (pi_enumT (by rfl) me (pa_cons (pv 1) pa_nil))) (pg_tup rfl (pgs_cons (pg_name (i := 2) S.nd rfl (.inl rfl)) (pgs_cons (pg_name (i := 3) S.nd rfl (.inl rfl)) pgs_nil)))
        (pss_one (ps_if (pt_not (pt_val (pe_call G2 hr (by rfl) g2 k2 b2 .nil pass0 (pa_cons (pv 0) (pa_cons (pv 3) pa_nil))))) (pss_one (ps_raise rfl tk (pmk_err T ms hr1 (by rfl) gR kR (pv 2)))) pss_nil)))
      (pss_one (ps_ret (pe_callTy call_list_of (by rfl) ml (by decide +kernel) (pa_cons (pv 1) pa_nil))))), ?_⟩
    have hcase : (isSeq u = false ∧ badAt ks u = some .non) ∨ ∃ a xs ws, v = .ref a ∧ SqA H a xs ∧ xs.length ≤ 900 ∧ IsAll H xs ws ∧ isSeq u = true ∧ badAt ks u = (ws.findIdx? fun w => !isRowW ks w).map fun i => V.int i := by
      cases hv with
      | @lst a xs ws hz e t => exact .inr ⟨a, xs, ws, rfl, .inl e, hz, t, by kernel_rfl, rfl⟩
      | @tup a xs ws hz e t => exact .inr ⟨a, xs, ws, rfl, .inr e, hz, t, by kernel_rfl, rfl⟩
      | non => exact .inl ⟨by kernel_rfl, rfl⟩
      | bl b => exact .inl ⟨by kernel_rfl, rfl⟩
      | int i => exact .inl ⟨by kernel_rfl, rfl⟩
      | str x _ _ => exact .inl ⟨by kernel_rfl, rfl⟩
      | dct _ _ _ => exact .inl ⟨by kernel_rfl, rfl⟩
    refine ⟨_, rfl, v, u, rfl, hv, fun H1 s1 => ⟨_, rfl, ?_⟩⟩
    rcases hcase with ⟨e1, e2⟩ | ⟨a, xs, ws, rfl, hsq, hz, hall, e1, e2⟩
    · rw [e1]
      exact iteT fun d nd => hE _ e2 d H1 s1 nd
    · rw [e1]
      refine iteF ?_
      have last : ∀ (σ : L2.St) (H2 : Hp), (∃ y z, σ = [some (.ref kd), some (.ref a), y, z]) → Same H H2 → (∀ (i : Nat) (w : W), ws[i]? = some w → isRowW ks w = true) →
          (tRet (tCB (fun xs H Q => ∃ p ys, xs = [V.ref p] ∧ (SqL K H p ys ∨ SqT K H p ys) ∧ ∀ l, H l = none → Q (.ref l) (upd H l (.lst ys))) (tCons (tVar 1) tNil))) { nx := fun _ H' => Q .non H', rt := Q } σ H2 := by
        rintro σ H2 ⟨y, z, rfl⟩ s2 ok
        have none_ : badAt ks u = none := by
          rw [e2]
          have z : (ws.findIdx? fun w => !isRowW ks w) = none := by
            rw [List.findIdx?_eq_none_iff]
            intro w hw
            obtain ⟨i, hi⟩ := List.getElem?_of_mem hw
            rw [ok i w hi]
            rfl
          rw [z]
          rfl
        refine ⟨_, rfl, a, xs, rfl, ?_, fun l nl => hQ none_ a xs l H2 rfl hsq s2 nl⟩
        rcases hsq with e | e
        · exact .inl (SqL.of (s2 _ _ e))
        · exact .inr (.inl (Rd.same e s2))
      have src : ∃ J : It, Walk J xs.length (fun H' => Same H H') (YPair (fun i => some (V.int (i : Nat))) (fun i => xs[i]?)) ∧
          ∀ R : It → Hp → Prop, R J H1 → iEnum K (tCons (tVar 1) tNil) (L2.start NRs [V.ref kd, V.ref a]) H1 R ∨ iEnumT K (tCons (tVar 1) tNil) (L2.start NRs [V.ref kd, V.ref a]) H1 R := by
        rcases hsq with e | e
        · exact ⟨_, walk_enum.mono (fun H' s => SqL.of (s _ _ e)) (fun _ _ _ _ _ _ y => y), fun R r => .inl ⟨_, rfl, a, xs, rfl, SqL.of (s1 _ _ e), r⟩⟩
        · exact ⟨_, walk_enumT.mono (fun H' s => .inl (Rd.same e s)) (fun _ _ _ _ _ _ y => y), fun R r => .inr ⟨_, rfl, a, xs, rfl, .inl (Rd.same e s1), r⟩⟩
      obtain ⟨J, wk, src⟩ := src
      refine src _ (for_it wk (fun i σ H' => (∃ y z, σ = [some (V.ref kd), some (V.ref a), y, z]) ∧ Same H H' ∧ ∀ (j : Nat) (w : W), j < i → ws[j]? = some w → isRowW ks w = true) ⟨⟨_, _, rfl⟩, s1, fun j w hj _ => absurd hj (Nat.not_lt_zero _)⟩ (fun _ _ _ _ p => p.2.1) ?_ ?_)
      · rintro i x σ H3 H4 hi ⟨⟨y, z, rfl⟩, s3, ok⟩ ⟨Tp, x1, x2, rfl, nT, rfl, e3, e4⟩
        cases e3
        have s4 : Same H (upd H3 Tp (.tup [V.int (i : Nat), x2])) := s3.trans (same_new nT)
        obtain ⟨wi, hwi, his⟩ := hall.get e4
        refine ⟨Tp, _, rfl, .inl (.inl upd_same), rfl, _, _, rfl, _, _, rfl, rfl, ?_⟩
        refine ⟨_, rfl, _, rfl, x2, wi, kd, ks, rfl, his.same s4, .inl (s4 _ _ hk), _, rfl, ?_⟩
        cases e5 : isRowW ks wi with
        | false =>
          refine iteT ⟨_, rfl, fun d nd => hE (.int (i : Nat)) ?_ d _ s4 nd⟩
          rw [e2]
          have z : (ws.findIdx? fun w => !isRowW ks w) = some i := by
            rw [List.findIdx?_eq_some_iff_getElem]
            have hl : i < ws.length := (List.getElem?_eq_some_iff.mp hwi).1
            refine ⟨hl, ?_, fun j hj => ?_⟩
            · rw [(List.getElem?_eq_some_iff.mp hwi).2, e5]
              rfl
            · rw [ok j _ hj (List.getElem?_eq_getElem (Nat.lt_trans hj hl))]
              simp
          rw [z]
          rfl
        | true =>
          refine iteF ⟨⟨_, _, rfl⟩, s4, fun j w hj hw => ?_⟩
          rcases Nat.lt_succ_iff_lt_or_eq.mp hj with q | q
          · exact ok j w q hw
          · rw [q, hwi] at hw
            cases hw
            exact e5
      · rintro σ H3 ⟨q, s3, ok⟩
        refine last σ H3 q s3 fun i w hw => ok i w ?_ hw
        rw [hall.len]
        exact (List.getElem?_eq_some_iff.mp hw).1
end
end Kn
-- part Vd
set_option maxHeartbeats 8000000
namespace Kn
open PySem PySem.Spec PyProof.Rows L2 Err
abbrev sDctN : Stmt := topS 11
abbrev NDn : List Str := ["value", "fewest", "most", "key"]
theorem scDn : FnScope NDn ["value", "fewest", "most"] (defScope sDctN) := ⟨rfl, rfl, rfl, by decide +kernel, rfl, by decide +kernel, by decide +kernel⟩
def keyW : Key → W
  | .inl i => .int i
  | .inr x => .str x
def isNameK : Option Key → Bool
  | some (.inr x) => isName x
  | _ => false
def isDctN (lo hi : Int) : W → Bool
  | .dct kws => decide (lo ≤ (kws.length : Int)) && (decide ((kws.length : Int) ≤ hi) && kws.all fun p => isNameK p.1)
  | _ => false
theorem IsKV.len {H : Hp} : ∀ {vs : List (Option Key × V)} {ws : List (Option Key × W)}, IsKV H vs ws → vs.length = ws.length
  | _, _, .nil => rfl
  | _, _, .cons _ _ t => congrArg (· + 1) t.len
theorem IsKV.keys {H : Hp} : ∀ {vs : List (Option Key × V)} {ws : List (Option Key × W)}, IsKV H vs ws → vs.map (·.1) = ws.map (·.1)
  | _, _, .nil => rfl
  | _, _, .cons _ _ t => congrArg (_ :: ·) t.keys
theorem IsKV.sm {H : Hp} : ∀ {vs : List (Option Key × V)} {ws : List (Option Key × W)}, IsKV H vs ws → ∀ p ∈ vs, kSm p.1
  | _, _, .nil, p, hp => by cases hp
  | _, _, .cons hk _ t, p, hp => by
    rcases List.mem_cons.mp hp with e | e
    · rw [e]; exact hk
    · exact t.sm p e
def spName : Sp := fun vs H Q _ => ∃ v w, vs = [v] ∧ Is H v w ∧ ∀ H', Same H H' → Q (.bl (isNameW w)) H'
def spDctN : Sp := fun vs H Q _ => ∃ v w lo hi, vs = [v, .int lo, .int hi] ∧ Is H v w ∧ NF H v ∧ ∀ H', Same H H' → Q (.bl (isDctN lo hi w)) H'
theorem same_unlock {H H3 : Hp} {d : Addr} {u : HO} {od : Obj} (hd : H d = some u) (s : Same (upd H d (.frz od u)) H3) : Same H (upd H3 d u) := fun b o e => by
  by_cases h : b = d
  · rw [h, hd] at e
    rw [h, upd_same]
    exact e
  · rw [upd_ne h]
    exact s b o (by rw [upd_ne h]; exact e)
section
variable {P : Program} {w : World} {K : PySem.W.Frag} {mg : Str → Option Value} {base : Heap}
theorem ok_dctN {f f1 : Addr} {fd fd1 : FuncData} (F : Fun K "is_dict_of_names" "is_dict_of_names" sDctN f fd) (G1 : FnOk P w K mg base CX0 1 f1 fd1 ["value"] spName) (k1 : PySem.W.keepIn K (.ref f1) = true) (b1 : Binds K fd1 ["value"] []) (g1 : mg "is_name" = some (.ref f1))
    (mi : mg "isinstance" = none) (m1 : mg "dict" = none) (ml : mg "len" = none) (ma : mg "all" = none) : FnOk P w K mg base CX0 2 f fd ["value", "fewest", "most"] spDctN := by
  have S := scDn
  refine F.ok S (fun vs H Q E h => ?_) (fun cdv A outer s H vs Q E hr h => ?_)
  · obtain ⟨v, u, lo, hi, rfl, _⟩ := h
    rfl
  · obtain ⟨v, u, lo, hi, rfl, hv, nf, q⟩ := h
    refine ⟨_, pss_cons (ps_if (PW.pt (pw_or (pt_not (pt_val (pe_callB call_isi (by rfl) mi PyProof.Rows.boot_isinstance (pa_cons (pv 0) (pa_cons (pe_bltn (v := .ty "dict") (by rfl) m1 (by decide +kernel) rfl) pa_nil)))))
        (pw_or1 (pt_not (pt_chain op_le op_le (pv 1) (pe_callB call_lenD (by rfl) ml PySem.boot_len (pa_cons (pv 0) pa_nil)) (pv 2)))))) (pss_one (ps_ret pe_bl)) pss_nil)
      (pss_one (ps_lock (ps_ret (pe_callB (cr_all (by rfl)) (by rfl) ma (by decide +kernel) (pa_cons (pe_lc (own := [("key", 3)]) (g := gName 3) rfl S.nd (pi_keys (pv 0)) (blkOk_by (N := NDn) (sc := defScope sDctN) (by decide +kernel)) (fun _ _ _ _ _ => pg_name (i := 3) S.nd rfl (.inl rfl)) (fun _ _ _ _ _ => pts_nil)
        (fun _ _ _ _ _ => pe_call G1 hr (by rfl) g1 k1 b1 .nil pass0 (pa_cons (pv 3) pa_nil))) pa_nil))))), ?_⟩
    refine ⟨_, rfl, v, .ty "dict", .type (tyN u), .type "dict", isTy "dict" u, rfl, .ty _, hv.ty, Is.kit (by decide), _, rfl, ?_⟩
    have hs : (∃ kws, u = .dct kws) ∨ (isTy "dict" u = false ∧ isDctN lo hi u = false) := by
      cases u with
      | dct kws => exact .inl ⟨kws, rfl⟩
      | _ => exact .inr ⟨by kernel_rfl, rfl⟩
    rcases hs with ⟨kws, rfl⟩ | ⟨e1, e2⟩
    · cases hv with
      | @dct a kvs _ hz hd hkv =>
        obtain ⟨ks, hd, rfl⟩ := hd
        have hd : H a = some (.dK ks) := by
          rcases hd with hd | ⟨o, hd⟩
          · exact hd
          · exact absurd hd (nf a o _ rfl)
        rw [List.length_map] at hz
        have e : isTy "dict" (.dct kws) = true := by kernel_rfl
        have lk : ks.length = kws.length := by
          have z := hkv.len
          rw [List.length_map] at z
          exact z
        have ev : isDctN lo hi (.dct kws) = (decide (lo ≤ (kws.length : Int)) && (decide ((kws.length : Int) ≤ hi) && kws.all fun p => isNameK p.1)) := rfl
        have fin : isDctN lo hi (.dct kws) = false → Q (.bl false) H := fun e => by
          have z := q H (Same.refl _)
          rw [e] at z
          exact z
        rw [e]
        refine iteF ⟨_, rfl, _, rfl, a, ks, rfl, hd, _, _, rfl, rfl, _, rfl, ?_⟩
        rw [lk]
        cases e1 : decide (lo ≤ (kws.length : Int)) with
        | false => exact iteF ⟨_, rfl, iteT (fin (by rw [ev, e1]; rfl))⟩
        | true =>
          refine iteT ⟨_, rfl, _, _, rfl, rfl, _, rfl, ?_⟩
          cases e2 : decide ((kws.length : Int) ≤ hi) with
          | false => exact iteT (fin (by rw [ev, e1, e2]; rfl))
          | true =>
            rw [e1, e2] at ev
            refine iteF ⟨a, _, hd, trivial, fun od => ?_⟩
            refine ⟨_, rfl, a, od, rfl, .inl ⟨ks, upd_same, fun D nD => lc_it (D := D) walk_keys (PB (upd H a (.frz od (.dK ks))) D (kws.map fun p => isNameK p.1)) (PB.zero nD) (fun i H' _ p => p.1 _ _ upd_same) ?_ ?_⟩⟩
            · rintro i x H3 H4 hi p ⟨rfl, k, vv, hk, rfl⟩
              refine ⟨rfl, ?_⟩
              dsimp only [tYes]
              rw [if_pos rfl]
              have hmem : (some k, vv) ∈ ks.map (fun p : Key × V => (some p.1, p.2)) := List.mem_map.mpr ⟨(k, vv), List.mem_of_getElem? hk, rfl⟩
              have hsm := hkv.sm _ hmem
              have hkw : (kws.map (·.1))[i]? = some (some k) := by
                rw [← hkv.keys, List.map_map, List.getElem?_map, hk]
                rfl
              have hb : (kws.map fun p => isNameK p.1)[i]? = some (isNameW (keyW k)) := by
                have e3 : (kws.map fun p => isNameK p.1) = (kws.map (·.1)).map isNameK := by rw [List.map_map]; rfl
                rw [e3, List.getElem?_map, hkw]
                cases k <;> rfl
              have hisk : Is H4 (kV k) (keyW k) := by
                cases k with
                | inl i => exact .int i
                | inr x => exact .str x hsm.1 hsm.2
              exact ⟨_, rfl, kV k, keyW k, rfl, hisk, fun H5 s5 => p.step s5 nD (by omega) hb⟩
            · intro H3 p
              have hl : (kws.map fun p => isNameK p.1).length = ks.length := by rw [List.length_map, lk]
              rw [← hl] at p
              refine ⟨D, _, rfl, SqL.of p.all, p.1 _ _ upd_same, ?_⟩
              have z := q _ (same_unlock hd p.1)
              rw [ev] at z
              rw [show (kws.map fun p => isNameK p.1).all id = kws.all fun p => isNameK p.1 by rw [List.all_map]; rfl]
              exact z
    · rw [e1]
      have z := q H (Same.refl _)
      rw [e2] at z
      exact iteT z
end
end Kn
-- part Vm
set_option maxHeartbeats 8000000
namespace Kn
open PySem PySem.Spec PyProof.Rows L2 Err
abbrev sStates : Stmt := topS 16
abbrev sMoves : Stmt := topS 17
abbrev sGood : Stmt := topS 18
abbrev NSt : List Str := ["value", "many", "state"]
theorem scSt : FnScope NSt ["value", "many"] (defScope sStates) := ⟨rfl, rfl, rfl, by decide +kernel, rfl, by decide +kernel, by decide +kernel⟩
def items : W → List W
  | .lst ws => ws
  | .tup ws => ws
  | _ => []
def statesW (n : Int) (w : W) : Bool := isSeq w && (items w).all (withinW 0 (n - 1))
theorem Is.seq {H : Hp} {v : V} {w : W} (h : Is H v w) (e : isSeq w = true) : ∃ a xs, v = .ref a ∧ SqA H a xs ∧ xs.length ≤ 900 ∧ IsAll H xs (items w) := by
  cases h with
  | @lst a xs ws hz e1 t => exact ⟨a, xs, rfl, .inl e1, hz, t⟩
  | @tup a xs ws hz e1 t => exact ⟨a, xs, rfl, .inr e1, hz, t⟩
  | non => cases (show false = true from e)
  | bl b => cases (show false = true from e)
  | int i => cases (show false = true from e)
  | str x _ _ => cases (show false = true from e)
  | dct _ _ _ => cases (show false = true from e)
theorem SqA.same {H H' : Hp} {a : Addr} {xs : List V} (h : SqA H a xs) (s : Same H H') : SqA H' a xs := by
  rcases h with h | h
  · exact .inl (s _ _ h)
  · exact .inr (Rd.same h s)
/-- what is walked, a list or a tuple -/
theorem walk_seq {K : PySem.W.Frag} {H : Hp} {a : Addr} {xs : List V} {te : TE} {σ : L2.St} (h : SqA H a xs) (hte : ∀ Q : VK, Q (.ref a) H → te σ H Q) :
    ∃ J : It, Walk J xs.length (fun H' => Same H H') (YAt xs) ∧ ∀ R : It → Hp → Prop, R J H → iList K te σ H R ∨ iTup K te σ H R := by
  rcases h with e | e
  · exact ⟨_, walk_list.mono (fun H' s => SqL.of (s _ _ e)) (fun _ _ _ _ _ _ y => y), fun R r => .inl (hte _ ⟨a, rfl, ⟨xs, SqL.of e⟩, r⟩)⟩
  · exact ⟨_, walk_tup.mono (fun H' s => .inl (Rd.same e s)) (fun _ _ _ _ _ _ y => y), fun R r => .inr (hte _ ⟨a, rfl, ⟨xs, .inl e⟩, r⟩)⟩
def spStates : Sp := fun vs H Q _ => ∃ v w n, vs = [v, .int n] ∧ Is H v w ∧ -1000 < n ∧ n < 1000 ∧ ∀ H', Same H H' → Q (.bl (statesW n w)) H'
section
variable {P : Program} {w : World} {K : PySem.W.Frag} {mg : Str → Option Value} {base : Heap}
theorem ok_states {f f1 f2 : Addr} {fd fd1 fd2 : FuncData} (F : Fun K "are_states" "are_states" sStates f fd) (G1 : FnOk P w K mg base CX0 1 f1 fd1 ["value"] spIsList) (k1 : PySem.W.keepIn K (.ref f1) = true) (b1 : Binds K fd1 ["value"] []) (g1 : mg "is_list" = some (.ref f1))
    (G2 : FnOk P w K mg base CX0 2 f2 fd2 ["value", "least", "greatest"] spWithin) (k2 : PySem.W.keepIn K (.ref f2) = true) (b2 : Binds K fd2 ["value", "least", "greatest"] []) (g2 : mg "is_within" = some (.ref f2)) (ma : mg "all" = none) :
    FnOk P w K mg base CX0 3 f fd ["value", "many"] spStates := by
  have S := scSt
  refine F.ok S (fun vs H Q E h => ?_) (fun cdv A outer s H vs Q E hr h => ?_)
  · obtain ⟨v, u, n, rfl, _⟩ := h
    rfl
  · obtain ⟨v, u, n, rfl, hv, n0, n1, q⟩ := h
    have hr1 := hr.mono (show 1 ≤ 2 by decide)
    refine ⟨_, pss_one (ps_ret (pe_and (pe_call G1 hr1 (by rfl) g1 k1 b1 .nil pass0 (pa_cons (pv 0) pa_nil))
      (pe_one (pe_callB (cr_all (by rfl)) (by rfl) ma (by decide +kernel) (pa_cons (pe_lc (own := [("state", 2)]) (g := gName 2) rfl S.nd (pi_both (pi_list (pv 0)) (pi_tup (pv 0))) (blkOk_by (N := NSt) (sc := defScope sStates) (by decide +kernel)) (fun _ _ _ _ _ => pg_name (i := 2) S.nd rfl (.inl rfl)) (fun _ _ _ _ _ => pts_nil)
        (fun _ _ _ _ _ => pe_call G2 hr (by rfl) g2 k2 b2 .nil pass0 (pa_cons (pv 2) (pa_cons pe_int (pa_cons (pe_op op_sub (pv 1) pe_int) pa_nil))))) pa_nil))))), ?_⟩
    refine ⟨_, rfl, v, u, rfl, hv, fun H1 s1 => ⟨_, rfl, ?_⟩⟩
    unfold statesW at q
    cases e : isSeq u with
    | false =>
      rw [e] at q
      exact iteF (q H1 s1)
    | true =>
      rw [e] at q
      obtain ⟨a, xs, rfl, hsq, hz, hall⟩ := hv.seq e
      refine iteT ?_
      obtain ⟨J, wk, src⟩ := walk_seq (K := K) (te := tVar 0) (σ := L2.start NSt [V.ref a, V.int n]) (hsq.same s1) (fun Q h => ⟨_, rfl, h⟩)
      refine src _ fun D nD => lc_it (D := D) wk (PB H1 D ((items u).map (withinW 0 (n - 1)))) (PB.zero nD) (fun _ _ _ p => p.1) ?_ ?_
      · rintro i x H3 H4 hi p ⟨rfl, hx⟩
        obtain ⟨wi, hwi, his⟩ := hall.get hx
        refine ⟨rfl, ?_⟩
        dsimp only [tYes]
        rw [if_pos rfl]
        refine ⟨_, rfl, _, rfl, _, _, rfl, rfl, x, wi, 0, n - 1, rfl, (his.same s1).same p.1, ?_⟩
        exact p.step (Same.refl _) nD (by omega) (by rw [List.getElem?_map, hwi]; rfl)
      · intro H3 p
        have hl : ((items u).map (withinW 0 (n - 1))).length = xs.length := by rw [List.length_map, hall.len]
        rw [← hl] at p
        refine ⟨D, _, rfl, SqL.of p.all, ?_⟩
        rw [show ((items u).map (withinW 0 (n - 1))).all id = (items u).all (withinW 0 (n - 1)) by rw [List.all_map]; rfl]
        exact q H3 (s1.trans p.1)
end
end Kn
-- part Vo
set_option maxHeartbeats 8000000
namespace Kn
open PySem PySem.Spec PyProof.Rows L2 Err
abbrev NMo : List Str := ["value", "many", "states"]
theorem scMo : FnScope NMo ["value"] (defScope sMoves) := ⟨rfl, rfl, rfl, by decide +kernel, rfl, by decide +kernel, by decide +kernel⟩
/-- values put into a new list, one at a turn -/
def PV (H1 : Hp) (D : Addr) (vs : List V) (i : Nat) (H : Hp) : Prop := Same H1 H ∧ H D = some (.lst (vs.take i))
theorem PV.zero {H1 : Hp} {D : Addr} {vs : List V} (n : H1 D = none) : PV H1 D vs 0 (upd H1 D (.lst [])) := ⟨same_new n, upd_same⟩
theorem PV.step {H1 H H4 : Hp} {D : Addr} {vs : List V} {i : Nat} {v : V} (p : PV H1 D vs i H) (s : Same H H4) (n : H1 D = none) (hi : i ≤ 900) (hv : vs[i]? = some v) :
    ∃ acc, H4 D = some (.lst acc) ∧ acc.length < sizeLine ∧ PV H1 D vs (i + 1) (upd H4 D (.lst (acc ++ [v]))) := by
  refine ⟨_, s _ _ p.2, ?_, same_own n (p.1.trans s), ?_⟩
  · rw [List.length_take]
    exact small1000 (by omega)
  · rw [upd_same, List.take_add_one, hv]
    rfl
theorem PV.all {H1 H : Hp} {D : Addr} {vs : List V} (p : PV H1 D vs vs.length H) : H D = some (.lst vs) := by
  have z := p.2
  rw [List.take_length] at z
  exact z
def maxI (ns : List Int) : Int := ns.foldr max (-1)
theorem maxI_le {m : Int} (h0 : -1 ≤ m) : ∀ {ns : List Int}, (∀ y ∈ ns, y ≤ m) → maxI ns ≤ m
  | [], _ => h0
  | n :: ns, h => by
    have z := maxI_le h0 (ns := ns) fun y hy => h y (List.mem_cons_of_mem _ hy)
    have z2 := h n (List.mem_cons_self ..)
    show max n (maxI ns) ≤ m
    omega
theorem le_maxI : ∀ {ns : List Int} {y : Int}, y ∈ ns → y ≤ maxI ns
  | n :: ns, y, h => by
    show y ≤ max n (maxI ns)
    rcases List.mem_cons.mp h with e | e
    · omega
    · have := le_maxI e
      omega
def lenW (w : W) : Int := ((items w).length : Int)
def mostW (kws : List (Option Key × W)) : Int := maxI (kws.map fun p => lenW p.2)
def movesW : W → Bool
  | .dct kws => isDctN 1 3 (.dct kws) && (kws.all (fun p => isSeq p.2) && (decide (1 ≤ mostW kws) && (decide (mostW kws ≤ 4) && kws.all fun p => decide (lenW p.2 = mostW kws) && statesW (mostW kws) p.2)))
  | _ => false
theorem IsKV.val {H : Hp} : ∀ {ks : List (Key × V)} {kws : List (Option Key × W)} {i : Nat} {k : Key} {x : V}, IsKV H (ks.map fun p => (some p.1, p.2)) kws → ks[i]? = some (k, x) → ∃ w, kws[i]? = some (some k, w) ∧ Is H x w
  | (k0, v0) :: ks, _, 0, k, x, .cons _ h _, e => by
    cases e
    exact ⟨_, rfl, h⟩
  | (k0, v0) :: ks, _, i + 1, k, x, .cons _ _ t, e => by
    obtain ⟨w, e1, e2⟩ := IsKV.val (ks := ks) (i := i) t (by simpa using e)
    exact ⟨w, by simpa using e1, e2⟩
def rLenA (K : PySem.W.Frag) : List V → Hp → VK → Prop := fun xs H Q => ∃ p ys, xs = [V.ref p] ∧ (SqL K H p ys ∨ SqT K H p ys) ∧ Q (.int ys.length) H
/-- r([te for x in d.values()]), d locked meanwhile: te gives vs, one after the other -/
theorem vals_read {r : List V → Hp → VK → Prop} {te : TE} {σ : L2.St} {H : Hp} {Q : VK} {a : Addr} {ks : List (Key × V)} {kws : List (Option Key × W)} {vs : List V} (h0 : σ[0]? = some (some (.ref a))) (hd : H a = some (.dK ks))
    (hkv : IsKV H (ks.map fun p => (some p.1, p.2)) kws) (hz : ks.length ≤ 900) (hl : vs.length = ks.length)
    (step : ∀ (od : Obj) (i : Nat) (x v : V) (k : Option Key) (wi : W) (H4 : Hp), kws[i]? = some (k, wi) → vs[i]? = some v → Same (upd H a (.frz od (.dK ks))) H4 → Is H4 x wi → ∀ R : VK, (∀ H5, Same H4 H5 → R v H5) → te ((wipe σ [2]).set 2 (some x)) H4 R)
    (fin : ∀ (od : Obj) (D : Addr) (H3 : Hp), Same (upd H a (.frz od (.dK ks))) H3 → H3 D = some (.lst vs) → r [.ref D] H3 (fun v H' => H' a = some (.frz od (.dK ks)) ∧ Q v (upd H' a (.dK ks))))
    (hw : ∀ x, wipe ((wipe σ [2]).set 2 (some x)) [2] = wipe σ [2]) : tLockE (tCB r (tCons (tLc (iVals (tVar 0)) (gName 2) tYes te [2]) tNil)) σ H Q := by
  refine ⟨a, _, hd, trivial, fun od => ?_⟩
  refine ⟨_, h0, a, od, ks, rfl, upd_same, fun D nD => lc_it (D := D) walk_values (PV (upd H a (.frz od (.dK ks))) D vs) (PV.zero nD) (fun i H' _ p => p.1 _ _ upd_same) ?_ ?_⟩
  · rintro i x H3 H4 hi p ⟨rfl, k, hk⟩
    obtain ⟨wi, hwi, his⟩ := hkv.val hk
    refine ⟨hw x, ?_⟩
    dsimp only [tYes]
    rw [if_pos rfl]
    have hv : vs[i]? = some (vs[i]'(by omega)) := List.getElem?_eq_getElem (by omega)
    exact step od i x _ _ wi H4 hwi hv p.1 ((his.lock hd).same p.1) _ fun H5 s5 => p.step s5 nD (by omega) hv
  · intro H3 p
    rw [← hl] at p
    exact fin od D H3 p.1 p.all
def spMoves : Sp := fun vs H Q _ => ∃ v w, vs = [v] ∧ Is H v w ∧ NF H v ∧ ∀ H', Same H H' → Q (.bl (movesW w)) H'
section
variable {P : Program} {w : World} {K : PySem.W.Frag} {mg : Str → Option Value} {base : Heap}
theorem ok_moves {f f1 f2 f3 : Addr} {fd fd1 fd2 fd3 : FuncData} (F : Fun K "are_moves" "are_moves" sMoves f fd) (G1 : FnOk P w K mg base CX0 1 f1 fd1 ["value"] spIsList) (k1 : PySem.W.keepIn K (.ref f1) = true) (b1 : Binds K fd1 ["value"] []) (g1 : mg "is_list" = some (.ref f1))
    (G2 : FnOk P w K mg base CX0 2 f2 fd2 ["value", "fewest", "most"] spDctN) (k2 : PySem.W.keepIn K (.ref f2) = true) (b2 : Binds K fd2 ["value", "fewest", "most"] []) (g2 : mg "is_dict_of_names" = some (.ref f2))
    (G3 : FnOk P w K mg base CX0 3 f3 fd3 ["value", "many"] spStates) (k3 : PySem.W.keepIn K (.ref f3) = true) (b3 : Binds K fd3 ["value", "many"] []) (g3 : mg "are_states" = some (.ref f3))
    (ma : mg "all" = none) (mm : mg "max" = none) (ml : mg "len" = none) : FnOk P w K mg base CX0 4 f fd ["value"] spMoves := by
  have S := scMo
  refine F.ok S (fun vs H Q E h => ?_) (fun cdv A outer s H vs Q E hr h => ?_)
  · obtain ⟨v, u, rfl, _⟩ := h
    rfl
  · obtain ⟨v, u, rfl, hv, nf, q⟩ := h
    have hr1 := hr.mono (show 1 ≤ 3 by decide)
    have hr2 := hr.mono (show 2 ≤ 3 by decide)
    refine ⟨_, pss_cons (ps_if (PW.pt (pw_or (pt_not (pt_val (pe_call G2 hr2 (by rfl) g2 k2 b2 .nil pass0 (pa_cons (pv 0) (pa_cons pe_int (pa_cons pe_int pa_nil))))))
        (pw_or1 (pt_not (pt_val (pe_lock (pe_callB (cr_all (by rfl)) (by rfl) ma (by decide +kernel) (pa_cons (pe_lc (own := [("states", 2)]) (g := gName 2) rfl S.nd (pi_values (pv 0)) (blkOk_by (N := NMo) (sc := defScope sMoves) (by decide +kernel)) (fun _ _ _ _ _ => pg_name (i := 2) S.nd rfl (.inl rfl)) (fun _ _ _ _ _ => pts_nil)
          (fun _ _ _ _ _ => pe_call G1 hr1 (by rfl) g1 k1 b1 .nil pass0 (pa_cons (pv 2) pa_nil))) pa_nil)))))))) (pss_one (ps_ret pe_bl)) pss_nil)
      (pss_cons (ps_set (i := 1) S.nd rfl (.inr rfl) (pe_lock (pe_callB (cr_max (by rfl)) (by rfl) mm (by decide +kernel) (pa_cons (pe_lc (own := [("states", 2)]) (g := gName 2) rfl S.nd (pi_values (pv 0)) (blkOk_by (N := NMo) (sc := defScope sMoves) (by decide +kernel)) (fun _ _ _ _ _ => pg_name (i := 2) S.nd rfl (.inl rfl)) (fun _ _ _ _ _ => pts_nil)
          (fun _ _ _ _ _ => pe_callB (show CallR _ (.builtin "len") (rLenA K) from call_len_seq) (by rfl) ml PySem.boot_len (pa_cons (pv 2) pa_nil))) pa_nil))))
      (pss_cons (ps_if (pt_not (pt_chain op_le op_le pe_int (pv 1) pe_int)) (pss_one (ps_ret pe_bl)) pss_nil)
      (pss_one (ps_ret (pe_lock (pe_callB (cr_all (by rfl)) (by rfl) ma (by decide +kernel) (pa_cons (pe_lc (own := [("states", 2)]) (g := gName 2) rfl S.nd (pi_values (pv 0)) (blkOk_by (N := NMo) (sc := defScope sMoves) (by decide +kernel)) (fun _ _ _ _ _ => pg_name (i := 2) S.nd rfl (.inl rfl)) (fun _ _ _ _ _ => pts_nil)
          (fun _ _ _ _ _ => pe_and (pe_cmpR op_eq (pe_callB (show CallR _ (.builtin "len") (rLenA K) from call_len_seq) (by rfl) ml PySem.boot_len (pa_cons (pv 2) pa_nil)) (pv 1) (nomark _)) (pe_one (pe_call G3 hr (by rfl) g3 k3 b3 .nil pass0 (pa_cons (pv 2) (pa_cons (pv 1) pa_nil)))))) pa_nil))))))), ?_⟩
    have hs : (∃ kws, u = .dct kws ∧ isDctN 1 3 u = true) ∨ (isDctN 1 3 u = false ∧ movesW u = false) := by
      cases u with
      | dct kws =>
        cases e : isDctN 1 3 (.dct kws) with
        | true => exact .inl ⟨kws, rfl, rfl⟩
        | false =>
          refine .inr ⟨rfl, ?_⟩
          show (isDctN 1 3 (.dct kws) && _) = false
          rw [e]
          rfl
      | _ => exact .inr ⟨rfl, rfl⟩
    refine ⟨_, rfl, v, u, 1, 3, rfl, hv, nf, fun H1 s1 => ⟨_, rfl, ?_⟩⟩
    rcases hs with ⟨kws, rfl, e⟩ | ⟨e1, e2⟩
    · rw [e]
      cases hv with
      | @dct a kvs _ hz hd hkv =>
        obtain ⟨ks, hd, rfl⟩ := hd
        rw [List.length_map] at hz
        have hd : H a = some (.dK ks) := by
          rcases hd with hd | ⟨o, hd⟩
          · exact hd
          · exact absurd hd (nf a o _ rfl)
        have lk : ks.length = kws.length := by
          have z := hkv.len
          rw [List.length_map] at z
          exact z
        have ev : movesW (.dct kws) = (isDctN 1 3 (.dct kws) && (kws.all (fun p => isSeq p.2) && (decide (1 ≤ mostW kws) && (decide (mostW kws ≤ 4) && kws.all fun p => decide (lenW p.2 = mostW kws) && statesW (mostW kws) p.2)))) := rfl
        rw [e, Bool.true_and] at ev
        refine iteF ?_
        unfold tNot tB
        refine (vals_read (vs := (kws.map fun p => isSeq p.2).map V.bl) rfl (s1 _ _ hd) (hkv.same s1) hz (by rw [List.length_map, List.length_map, lk]) ?_ ?_ (fun x => rfl))
        · intro od i x v k wi H4 hwi hv s4 his R hR
          refine ⟨_, rfl, x, wi, rfl, his, fun H5 s5 => ?_⟩
          have z : v = .bl (isSeq wi) := by
            rw [List.getElem?_map, List.getElem?_map, hwi] at hv
            exact (Option.some.inj hv).symm
          rw [← z]
          exact hR H5 s5
        · intro od D H3 s3 hD
          refine ⟨D, _, rfl, SqL.of hD, s3 _ _ upd_same, ?_⟩
          have s2 : Same H (upd H3 a (.dK ks)) := s1.trans (same_unlock (s1 _ _ hd) s3)
          have e3 : (kws.map fun p => isSeq p.2).all id = kws.all fun p => isSeq p.2 := by rw [List.all_map]; rfl
          rw [e3]
          generalize upd H3 a (.dK ks) = H2 at s2 ⊢
          have endF : movesW (.dct kws) = false → ∀ H', Same H H' → Q (.bl false) H' := fun e H' s => by
            have z := q H' s
            rw [e] at z
            exact z
          cases e4 : kws.all fun p => isSeq p.2 with
          | false => exact ⟨_, rfl, iteT (endF (by rw [ev, e4]; rfl) H2 s2)⟩
          | true =>
            rw [e4, Bool.true_and] at ev
            have seqs : ∀ {i : Nat} {k : Option Key} {wi : W}, kws[i]? = some (k, wi) → isSeq wi = true := fun {i k wi} h => List.all_eq_true.mp e4 _ (List.mem_of_getElem? h)
            have lens : ∀ {i : Nat} {k : Option Key} {wi : W} {x : V} {H4 : Hp}, kws[i]? = some (k, wi) → Is H4 x wi → ∃ p ys, x = .ref p ∧ (SqL K H4 p ys ∨ SqT K H4 p ys) ∧ (ys.length : Int) = lenW wi := fun {i k wi x H4} h his => by
              obtain ⟨p, ys, rfl, hsq, _, hall⟩ := his.seq (seqs h)
              refine ⟨p, ys, rfl, ?_, congrArg Int.ofNat hall.len⟩
              rcases hsq with z | z
              · exact .inl (SqL.of z)
              · exact .inr (.inl z)
            have pos : 0 < kws.length := by
              have z : (decide ((1 : Int) ≤ (kws.length : Int)) && _) = true := e
              have z2 := of_decide_eq_true (Bool.and_eq_true_iff.mp z).1
              omega
            refine ⟨_, rfl, iteF ?_⟩
            refine vals_read (vs := kws.map fun p => V.int (lenW p.2)) rfl (s2 _ _ hd) (hkv.same s2) hz (by rw [List.length_map, lk]) ?_ ?_ (fun x => rfl)
            · intro od i x v k wi H4 hwi hv s4 his R hR
              obtain ⟨p, ys, rfl, hsq, hlen⟩ := lens hwi his
              refine ⟨_, rfl, p, ys, rfl, hsq, ?_⟩
              have z : v = .int (ys.length : Nat) := by
                rw [List.getElem?_map, hwi] at hv
                rw [hlen]
                exact (Option.some.inj hv).symm
              rw [← z]
              exact hR H4 (Same.refl _)
            · intro od D2 H5 s5 hD2
              have hmap : (kws.map fun p => V.int (lenW p.2)) = (kws.map fun p => lenW p.2).map V.int := by rw [List.map_map]; rfl
              rw [hmap] at hD2
              refine ⟨D2, _, rfl, SqL.of hD2, by rw [List.length_map]; exact pos, fun m hm hle => ⟨s5 _ _ upd_same, ?_⟩⟩
              have em : m = mostW kws := by
                have z1 : m ≤ mostW kws := le_maxI hm
                have z2 : mostW kws ≤ m := by
                  refine maxI_le ?_ hle
                  obtain ⟨p, _, rfl⟩ := List.mem_map.mp hm
                  show -1 ≤ ((items p.2).length : Int)
                  omega
                omega
              subst em
              have s6 : Same H (upd H5 a (.dK ks)) := s2.trans (same_unlock (s2 _ _ hd) s5)
              generalize upd H5 a (.dK ks) = H6 at s6 ⊢
              refine ⟨_, rfl, _, _, rfl, rfl, _, rfl, ?_⟩
              cases e5 : decide ((1 : Int) ≤ mostW kws) with
              | false => exact iteF ⟨_, rfl, iteT (endF (by rw [ev, e5]; rfl) H6 s6)⟩
              | true =>
                refine iteT ⟨_, _, rfl, rfl, _, rfl, ?_⟩
                cases e6 : decide (mostW kws ≤ 4) with
                | false => exact iteT (endF (by rw [ev, e5, e6]; rfl) H6 s6)
                | true =>
                  rw [e5, e6, Bool.true_and, Bool.true_and] at ev
                  refine iteF ?_
                  unfold tRet
                  refine vals_read (vs := (kws.map fun p => decide (lenW p.2 = mostW kws) && statesW (mostW kws) p.2).map V.bl) rfl (s6 _ _ hd) (hkv.same s6) hz (by rw [List.length_map, List.length_map, lk]) ?_ ?_ (fun x => rfl)
                  · intro od i x v k wi H4 hwi hv s4 his R hR
                    obtain ⟨p, ys, rfl, hsq, hlen⟩ := lens hwi his
                    refine ⟨_, rfl, p, ys, rfl, hsq, _, rfl, rfl, _, rfl, ?_⟩
                    have e7 : decide (V.int (ys.length : Nat) = V.int (mostW kws)) = decide (lenW wi = mostW kws) := by
                      rw [hlen]
                      by_cases h : lenW wi = mostW kws
                      · rw [decide_eq_true h, decide_eq_true (by rw [h])]
                      · rw [decide_eq_false h, decide_eq_false fun z => h (V.int.inj z)]
                    rw [e7]
                    have z : v = .bl (decide (lenW wi = mostW kws) && statesW (mostW kws) wi) := by
                      rw [List.getElem?_map, List.getElem?_map, hwi] at hv
                      exact (Option.some.inj hv).symm
                    rw [z] at hR
                    have hb := of_decide_eq_true e6
                    have hb1 := of_decide_eq_true e5
                    cases e8 : decide (lenW wi = mostW kws) with
                    | false =>
                      rw [e8] at hR
                      exact iteF (hR H4 (Same.refl _))
                    | true =>
                      rw [e8] at hR
                      exact iteT ⟨_, rfl, _, rfl, _, wi, mostW kws, rfl, his, by omega, by omega, fun H5 s5 => hR H5 s5⟩
                  · intro od D3 H7 s7 hD3
                    refine ⟨D3, _, rfl, SqL.of hD3, s7 _ _ upd_same, ?_⟩
                    have s8 : Same H (upd H7 a (.dK ks)) := s6.trans (same_unlock (s6 _ _ hd) s7)
                    have e9 : (kws.map fun p => decide (lenW p.2 = mostW kws) && statesW (mostW kws) p.2).all id = kws.all fun p => decide (lenW p.2 = mostW kws) && statesW (mostW kws) p.2 := by rw [List.all_map]; rfl
                    rw [e9, ← ev]
                    exact q _ s8
    · rw [e1]
      have z := q H1 s1
      rw [e2] at z
      exact iteT z
end
end Kn
-- part Tf
set_option maxHeartbeats 4000000
/-! Methods of a tuple that is known as an object. -/
namespace L2
open PySem PySem.Spec PyProof.Rows
section
variable {X : Cx} {pins : List (Addr × Obj)} {σ : St} {H : Hp} {s : Shared}
/-- at p a tuple, known as an object without a dict -/
def FrT (H : Hp) (p : Addr) (xs : List V) : Prop := ∃ o : Obj, H p = some (.frz o (.tup xs)) ∧ o.dict = none
theorem FrT.rd {p : Addr} {xs : List V} (h : FrT H p xs) : Rd H p (.tup xs) := by
  obtain ⟨o, e, _⟩ := h
  exact .inr ⟨o, e⟩
theorem FrT.is {p : Addr} {xs : List V} (I : Inv X pins σ H s) (h : FrT H p xs) : s.TypeIs (.ref p) "tuple" ∧ ∀ a, Value.ref p = .ref a → ∃ ob, s.heap.get? a = some ob ∧ ob.dict = none := by
  obtain ⟨o, e, hd⟩ := h
  obtain ⟨ho, _, _, _, o2, h2, hc, _⟩ := (show s.heap.get? p = some o ∧ ObjOk X.prog X.w H s.heap p (.tup xs) from I.hok _ _ e)
  rw [ho] at h2
  cases h2
  refine ⟨⟨o, ho, hc⟩, fun a z => ?_⟩
  cases z
  exact ⟨o, ho, hd⟩
def tBMF (r : V → List V → Hp → VK → Prop) (to : TE) (t : TA) : TE := fun σ H Q => to σ H fun x H1 => (∃ p xs, x = .ref p ∧ FrT H1 p xs) ∧ t σ H1 fun ys H2 => r x ys H2 Q
variable {o e : Expr} {es : List Expr} {to : TE} {t : TA} {name : Str} {apos cpos : Pos} {id : String} {r : V → List V → Hp → VK → Prop}
theorem pe_bmF (slot : Slot "tuple" name id) (hty : typeOf (.builtin id) = pure (.type "method_descriptor")) (hm : MtR X id r) (ho : PE X o to) (ha : PA X (e :: es) t)
    (hbase : attributeBase o name X.env (eval o X.env) = eval o X.env := by rfl)
    (few : ((backTo cpos (starEach (e :: es) X.env)).all (fun x => !x.1) && (backToKw cpos (keywordEach [] X.env)).all (fun x => x.1.isSome) && decide ((e :: es).length + ([] : List Keyword).length + (if ([] : List Keyword).isEmpty then 0 else 1) < 30)) = true := by rfl)
    (line : (apos.endLine == cpos.line) = true := by rfl) (star : starEach (e :: es) X.env = (false, eval e X.env) :: starEach es X.env := by rfl) (plain : (backTo cpos (starEach es X.env)).any (·.1) = false := by rfl) :
    PE X (.Call (.Attribute o name apos) (e :: es) [] cpos) (tBMF r to t) := by
  constructor
  intro pins s σ H Q I h
  refine wpAny_Call_method_late hbase few line rfl (thn (ho.run pins s σ H _ I h) ?_)
  rintro v s1 ⟨x, H1, I1, r1, ⟨p, xs, rfl, hf⟩, q1⟩
  cases r1
  obtain ⟨h1, h2⟩ := hf.is I1
  refine ⟨"tuple", id, PySem.F.plainAttrs_tuple, slot, hty, h1, h2, ?_⟩
  have hA := ha.run cpos pins s1 σ H1 _ I1 q1
  rw [star] at hA ⊢
  refine Calls.callWith_builtin (by show (false || (backTo cpos (starEach es X.env)).any (·.1)) = false; rw [plain] <;> rfl) (Calls.evalArgs_plain (thn hA ?_))
  rintro us s2 ⟨vs, H2, I2, r2, q2⟩
  exact hm pins s2 σ H2 (.ref p) vs (.ref p) us Q I2 rfl r2 q2
/-- t.count(k) of a tuple of ints -/
def rCntT (K : PySem.W.Frag) : V → List V → Hp → VK → Prop := fun x xs H Q => ∃ (p : Addr) (ns : List Int) (k : Int), x = .ref p ∧ xs = [.int k] ∧ SqT K H p (ns.map V.int) ∧ Q (.int (ns.count k : Nat)) H
theorem mt_tcount : MtR X "tuple.count" (rCntT X.K) := by
  rintro pins s σ H x xs v us Q I rx rxs ⟨p, ns, k, rfl, rfl, hs, q⟩
  cases rx
  obtain ⟨u, rfl, t, rfl⟩ := rxs.one
  obtain ⟨its, rv, ⟨⟨cls, dd, data, sl⟩, ho, hc, n, hd⟩, hlen⟩ := I.tuple hs
  simp only at hc hd
  subst hc hd
  have hi := ints_of_vals rv
  have ec : its.toArray.toList.countP (eqk k) = ns.count k := eqk_count hi
  refine call_meets PySem.F.slot_tuple_count ⟨_, ho, rfl⟩ PySem.F.entry_tuple_count (PySem.F.args_tuple_count_2 _ _) (SeqAt.tuple_countAt p its.toArray n dd sl (.int k t) (eqk k)) ⟨ho, fun y hy => (eqk_gives hi y (by simpa using hy)).at _ _, ?_⟩
  exact ⟨.int (ns.count k : Nat), H, I.tok _, ⟨s.toks, by rw [ec]⟩, q⟩
/-- tuple(list), known as an object -/
theorem call_tuple_frz : CallR X (.type "tuple") (fun xs H Q => ∃ p ys, xs = [.ref p] ∧ SqL X.K H p ys ∧ ∀ l o, H l = none → o.dict = none → Q (.ref l) (upd H l (.frz o (.tup ys)))) := by
  rintro pins s σ H xs us Q I r ⟨p, ys, rfl, hq, q⟩
  obtain ⟨u, rfl, rx⟩ := vals1 r
  cases rx
  obtain ⟨its, r2, pl, hz⟩ := I.list hq
  have hlen := r2.length
  refine call_tuple_list pl.isList (fun h' kp => ?_) (by simp only [List.size_toArray] <;> omega)
  have I1 : Inv X pins σ H { s with heap := h' } := I.kept (t' := s.toks) kp
  have at_ : (h'.push { cls := .type "tuple", data := .seq its.toArray }).get? h'.objs.size = some { cls := .type "tuple", data := .seq its.toArray } := Heap.get?_push_size _ rfl
  have I2 : Inv X pins σ (upd H h'.objs.size (.frz { cls := .type "tuple", data := .seq its.toArray } (.tup ys))) { s with heap := h'.push { cls := .type "tuple", data := .seq its.toArray } } :=
    I1.laid (t' := s.toks) (fun b o e => Heap.get?_push_of_some _ e) (Nat.le_refl _) ⟨at_, hz, its, r2, IsTup.new _ _⟩
  exact ⟨.ref h'.objs.size, _, I2, rfl, q _ _ (I1.hok.fresh (Nat.le_refl _)) rfl⟩
theorem pe_two {e : Expr} {t u : TE} (h1 : PE X e t) (h2 : PE X e u) : PE X e (fun σ H Q => t σ H Q ∨ u σ H Q) := ⟨fun pins s σ H Q I h => by
  rcases h with h | h
  · exact h1.run pins s σ H Q I h
  · exact h2.run pins s σ H Q I h⟩
end
end L2
-- part Vg
set_option maxHeartbeats 8000000
namespace Kn
open PySem PySem.Spec PyProof.Rows L2 Err
def toI : W → Option Int
  | .int i => some i
  | _ => none
def intsW (w : W) : List Int := (items w).filterMap toI
def goodW (n : Int) (w : W) : Bool := statesW n w && (intsW w).all fun k => decide ((intsW w).count k = 1)
theorem ints_all {H : Hp} {lo hi : Int} : ∀ {xs : List V} {ws : List W}, IsAll H xs ws → ws.all (withinW lo hi) = true → xs = (ws.filterMap toI).map V.int
  | _, _, .nil, _ => rfl
  | _, _, .cons (w := w) h t, e => by
    obtain ⟨e1, e2⟩ := Bool.and_eq_true_iff.mp (show (withinW lo hi w && _) = true from e)
    cases h with
    | int i => exact congrArg (V.int i :: ·) (ints_all t e2)
    | non => cases (show false = true from e1)
    | bl b => cases (show false = true from e1)
    | str x _ _ => cases (show false = true from e1)
    | lst _ _ _ => cases (show false = true from e1)
    | tup _ _ _ => cases (show false = true from e1)
    | dct _ _ _ => cases (show false = true from e1)
abbrev NGo : List Str := ["value", "many", "state"]
theorem scGo : FnScope NGo ["value", "many"] (defScope sGood) := ⟨rfl, rfl, rfl, by decide +kernel, rfl, by decide +kernel, by decide +kernel⟩
/-- a tuple must be known as an object -/
def spGood : Sp := fun vs H Q _ => ∃ v w n, vs = [v, .int n] ∧ Is H v w ∧ (∀ a xs, v = .ref a → Rd H a (.tup xs) → FrT H a xs) ∧ -1000 < n ∧ n < 1000 ∧ ∀ H', Same H H' → Q (.bl (goodW n w)) H'
section
variable {P : Program} {w : World} {K : PySem.W.Frag} {mg : Str → Option Value} {base : Heap}
theorem ok_good {f f3 : Addr} {fd fd3 : FuncData} (F : Fun K "are_good" "are_good" sGood f fd)
    (G3 : FnOk P w K mg base CX0 3 f3 fd3 ["value", "many"] spStates) (k3 : PySem.W.keepIn K (.ref f3) = true) (b3 : Binds K fd3 ["value", "many"] []) (g3 : mg "are_states" = some (.ref f3)) (ma : mg "all" = none) :
    FnOk P w K mg base CX0 4 f fd ["value", "many"] spGood := by
  have S := scGo
  refine F.ok S (fun vs H Q E h => ?_) (fun cdv A outer s H vs Q E hr h => ?_)
  · obtain ⟨v, u, n, rfl, _⟩ := h
    rfl
  · obtain ⟨v, u, n, rfl, hv, nt, n0, n1, q⟩ := h
    have cnt : ∀ (X : Cx) {o e : Expr} {to : TE} {t : TA} {apos cpos : Pos}, X.K = K → PE X o to → PA X [e] t → attributeBase o "count" X.env (eval o X.env) = eval o X.env →
        ((backTo cpos (starEach [e] X.env)).all (fun x => !x.1) && (backToKw cpos (keywordEach [] X.env)).all (fun x => x.1.isSome) && decide (([e] : List Expr).length + ([] : List Keyword).length + (if ([] : List Keyword).isEmpty then 0 else 1) < 30)) = true →
        (apos.endLine == cpos.line) = true → starEach [e] X.env = (false, eval e X.env) :: starEach [] X.env → (backTo cpos (starEach [] X.env)).any (·.1) = false →
        PE X (.Call (.Attribute o "count" apos) [e] [] cpos) (fun σ H Q => tBM K "list" (rCntI K) to t σ H Q ∨ tBMF (rCntT K) to t σ H Q) := by
      intro X o e to t apos cpos hK ho he h1 h2 h3 h4 h5
      subst hK
      exact pe_two (pe_bm PySem.F.plainAttrs_list PySem.F.slot_list_count PySem.F.type_list_count mt_lcount ho he h1 h2 h3 h4 h5) (pe_bmF PySem.F.slot_tuple_count PySem.F.type_tuple_count mt_tcount ho he h1 h2 h3 h4 h5)
    refine ⟨_, pss_cons (ps_if (pt_not (pt_val (pe_call G3 hr (by rfl) g3 k3 b3 .nil pass0 (pa_cons (pv 0) (pa_cons (pv 1) pa_nil))))) (pss_one (ps_ret pe_bl)) pss_nil)
      (pss_one (ps_ret (pe_callB (cr_all (by rfl)) (by rfl) ma (by decide +kernel) (pa_cons (pe_lc (own := [("state", 2)]) (g := gName 2) rfl S.nd (pi_both (pi_list (pv 0)) (pi_tup (pv 0))) (blkOk_by (N := NGo) (sc := defScope sGood) (by decide +kernel)) (fun _ _ _ _ _ => pg_name (i := 2) S.nd rfl (.inl rfl)) (fun _ _ _ _ _ => pts_nil)
        (fun _ _ _ _ _ => pe_cmpR op_eq (cnt _ rfl (pv 0) (pa_cons (pv 2) pa_nil) rfl rfl rfl rfl rfl) pe_int (nomark _))) pa_nil)))), ?_⟩
    refine ⟨_, rfl, _, rfl, v, u, n, rfl, hv, n0, n1, fun H1 s1 => ⟨_, rfl, ?_⟩⟩
    unfold goodW at q
    cases e : statesW n u with
    | false =>
      rw [e] at q
      exact iteT (q H1 s1)
    | true =>
      rw [e] at q
      obtain ⟨e1, e2⟩ := Bool.and_eq_true_iff.mp (show (isSeq u && _) = true from e)
      obtain ⟨a, xs, rfl, hsq, hz, hall⟩ := hv.seq e1
      have hx : xs = (intsW u).map V.int := ints_all hall e2
      subst hx
      rw [List.length_map] at hz
      refine iteF ?_
      obtain ⟨J, wk, src⟩ := walk_seq (K := K) (te := tVar 0) (σ := L2.start NGo [V.ref a, V.int n]) (hsq.same s1) (fun Q h => ⟨_, rfl, h⟩)
      refine src _ fun D nD => lc_it (D := D) wk (PB H1 D ((intsW u).map fun k => decide ((intsW u).count k = 1))) (PB.zero nD) (fun _ _ _ p => p.1) ?_ ?_
      · rintro i x H3 H4 hi p ⟨rfl, hx⟩
        rw [List.length_map] at hi
        have hk : (intsW u)[i]? = some ((intsW u)[i]'hi) := List.getElem?_eq_getElem hi
        obtain rfl : V.int ((intsW u)[i]'hi) = x := by
          rw [List.getElem?_map, hk] at hx
          exact Option.some.inj hx
        refine ⟨rfl, ?_⟩
        dsimp only [tYes]
        rw [if_pos rfl]
        have hsq4 := (hsq.same s1).same p.1
        have ec : ∀ m : Nat, decide (V.int (m : Int) = V.int 1) = decide (m = 1) := fun m => by
          by_cases h : m = 1
          · rw [h]; rfl
          · rw [decide_eq_false h]
            exact decide_eq_false fun z => h (by have y := V.int.inj z; omega)
        have last := p.step (Same.refl _) nD (by omega) (b := decide ((intsW u).count ((intsW u)[i]'hi) = 1)) (by rw [List.getElem?_map, hk]; rfl)
        rcases hsq4 with z | z
        · refine .inl ⟨_, rfl, .inl ⟨rfl, _, SqL.of z⟩, _, rfl, a, intsW u, _, rfl, rfl, SqL.of z, rfl, ?_⟩
          rw [ec]
          exact last
        · have ft : FrT H4 a ((intsW u).map V.int) := by
            rcases hsq with y | y
            · rcases z with z | ⟨_, z⟩
              · rw [(s1.trans p.1) _ _ y] at z
                cases z
              · rw [(s1.trans p.1) _ _ y] at z
                cases z
            · obtain ⟨o, e3, e4⟩ := nt a _ rfl y
              exact ⟨o, (s1.trans p.1) _ _ e3, e4⟩
          refine .inr ⟨_, rfl, ⟨a, _, rfl, ft⟩, _, rfl, a, intsW u, _, rfl, rfl, .inl z, rfl, ?_⟩
          rw [ec]
          exact last
      · intro H3 p
        have hl : ((intsW u).map fun k => decide ((intsW u).count k = 1)).length = ((intsW u).map V.int).length := by rw [List.length_map, List.length_map]
        rw [← hl] at p
        refine ⟨D, _, rfl, SqL.of p.all, ?_⟩
        rw [show ((intsW u).map fun k => decide ((intsW u).count k = 1)).all id = (intsW u).all fun k => decide ((intsW u).count k = 1) by rw [List.all_map]; rfl]
        exact q H3 (s1.trans p.1)
end
end Kn
-- part Lw
set_option maxHeartbeats 8000000
/-! The law's own judges. -/
namespace Kn
open PySem PySem.Spec PyProof.Rows L2 Err
abbrev sLState : Stmt := topS 31
theorem scLs : FnScope ["_law_thing_here", "_law_many"] ["_law_thing_here", "_law_many"] (defScope sLState) := ⟨rfl, rfl, rfl, by decide +kernel, rfl, by decide +kernel, by decide +kernel⟩
def spLState : Sp := fun vs H Q _ => ∃ v w n, vs = [v, .int n] ∧ Is H v w ∧ Q (.bl (withinW 0 (n - 1) w)) H
section
variable {P : Program} {w : World} {K : PySem.W.Frag} {mg : Str → Option Value} {base : Heap}
theorem ok_lstate {f : Addr} {fd : FuncData} (F : Fun K "_law_is_state" "_law_is_state" sLState f fd) (mi : mg "isinstance" = none) (m1 : mg "int" = none) (m2 : mg "bool" = none) : FnOk P w K mg base CX0 1 f fd ["_law_thing_here", "_law_many"] spLState := by
  have S := scLs
  refine F.ok S (fun vs H Q E h => ?_) (fun cdv A outer s H vs Q E hr h => ?_)
  · obtain ⟨v, u, n, rfl, _⟩ := h
    rfl
  · obtain ⟨v, u, n, rfl, hv, q⟩ := h
    refine ⟨_, pss_one (ps_ret (pe_and (pe_callB call_isi (by rfl) mi PyProof.Rows.boot_isinstance (pa_cons (pv 0) (pa_cons (pe_bltn (v := .ty "int") (by rfl) m1 (by decide +kernel) rfl) pa_nil)))
      (pe_and (pe_not (pe_callB call_isi (by rfl) mi PyProof.Rows.boot_isinstance (pa_cons (pv 0) (pa_cons (pe_bltn (v := .ty "bool") (by rfl) m2 (by decide +kernel) rfl) pa_nil))))
        (pe_one (pe_chain op_le op_lt pe_int (pv 0) (pv 1)))))), ?_⟩
    refine ⟨_, rfl, v, .ty "int", .type (tyN u), .type "int", isTy "int" u, rfl, .ty _, hv.ty, Is.kit (by decide), _, rfl, ?_⟩
    have hs : (∃ i, u = .int i) ∨ (isTy "int" u = false ∧ withinW 0 (n - 1) u = false) ∨ (isTy "int" u = true ∧ isTy "bool" u = true ∧ withinW 0 (n - 1) u = false) := by
      cases u with
      | int i => exact .inl ⟨i, rfl⟩
      | bl b => exact .inr (.inr ⟨by kernel_rfl, by kernel_rfl, rfl⟩)
      | _ => exact .inr (.inl ⟨by kernel_rfl, rfl⟩)
    rcases hs with ⟨i, rfl⟩ | ⟨e1, e2⟩ | ⟨e1, e2, e3⟩
    · cases hv
      have e1 : isTy "int" (.int i) = true := by kernel_rfl
      have e2 : isTy "bool" (.int i) = false := by kernel_rfl
      rw [e1]
      refine iteT ⟨_, rfl, _, .ty "bool", .type (tyN (.int i)), .type "bool", isTy "bool" (.int i), rfl, .ty _, (Is.int (H := H) i).ty, Is.kit (by decide), _, rfl, _, rfl, ?_⟩
      rw [e2]
      refine iteT ⟨_, rfl, _, _, rfl, rfl, _, rfl, ?_⟩
      have ev : withinW 0 (n - 1) (.int i) = (decide (0 ≤ i) && decide (i < n)) := by
        have z : decide (i ≤ n - 1) = decide (i < n) := by
          by_cases h : i < n
          · rw [decide_eq_true h]; exact decide_eq_true (by omega)
          · rw [decide_eq_false h]; exact decide_eq_false (by omega)
        show (decide (0 ≤ i) && decide (i ≤ n - 1)) = _
        rw [z]
      rw [ev] at q
      cases e4 : decide ((0 : Int) ≤ i) with
      | false =>
        rw [e4] at q
        exact iteF q
      | true =>
        rw [e4] at q
        exact iteT ⟨_, rfl, _, _, rfl, rfl, q⟩
    · rw [e1]
      rw [e2] at q
      exact iteF q
    · rw [e1]
      rw [e3] at q
      refine iteT ⟨_, rfl, v, .ty "bool", .type (tyN u), .type "bool", isTy "bool" u, rfl, .ty _, hv.ty, Is.kit (by decide), _, rfl, _, rfl, ?_⟩
      rw [e2]
      exact iteF q
end
end Kn
-- part Lt
set_option maxHeartbeats 8000000
namespace Kn
open PySem PySem.Spec PyProof.Rows L2 Err
abbrev sLTitle : Stmt := topS 32
abbrev NLt : List Str := ["_law_thing_here", "_law_letter"]
theorem scLt : FnScope NLt ["_law_thing_here"] (defScope sLTitle) := ⟨rfl, rfl, rfl, by decide +kernel, rfl, by decide +kernel, by decide +kernel⟩
/-- signs put into a new list, those that are wanted -/
def PF (H1 : Hp) (D : Addr) (f : Nat → Bool) (cs : List Nat) (i : Nat) (H : Hp) : Prop := Same H1 H ∧ H D = some (.lst (((cs.take i).filter f).map fun c => V.str ⟨#[c]⟩))
theorem sms_signs : ∀ {cs : List Nat}, (∀ c ∈ cs, c < 0x110000) → Sms (cs.map fun c => V.str ⟨#[c]⟩) (cs.map fun c => PyData.str ⟨#[c]⟩)
  | [], _ => .nil
  | c :: cs, h => .cons (.str _ (by
      have z := h c (List.mem_cons_self ..)
      unfold PyData.strOk
      simp [z])) (sms_signs fun d hd => h d (List.mem_cons_of_mem _ hd))
def spLTitle : Sp := fun vs H Q _ => ∃ v w, vs = [v] ∧ Is H v w ∧ ∀ H', Same H H' → Q (.bl (isNameW w)) H'
section
variable {P : Program} {w : World} {K : PySem.W.Frag} {mg : Str → Option Value} {base : Heap}
theorem ok_ltitle {f : Addr} {fd : FuncData} (F : Fun K "_law_is_title" "_law_is_title" sLTitle f fd) (mi : mg "isinstance" = none) (m1 : mg "str" = none) (ml : mg "len" = none) : FnOk P w K mg base CX0 1 f fd ["_law_thing_here"] spLTitle := by
  have S := scLt
  refine F.ok S (fun vs H Q E h => ?_) (fun cdv A outer s H vs Q E hr h => ?_)
  · obtain ⟨v, w, rfl, _⟩ := h
    rfl
  · obtain ⟨v, w, rfl, hv, q⟩ := h
    refine ⟨_, pss_cons (ps_if (PW.pt (pw_or (pt_not (pt_val (pe_callB call_isi (by rfl) mi PyProof.Rows.boot_isinstance (pa_cons (pv 0) (pa_cons (pe_bltn (v := .ty "str") (by rfl) m1 (by decide +kernel) rfl) pa_nil)))))
        (pw_or (pt_not (pt_chain op_le op_le pe_int (pe_callB call_len_str (by rfl) ml PySem.boot_len (pa_cons (pv 0) pa_nil)) pe_int))
          (pw_or1 (pt_cmpR op_eq (pv 0) pe_str (nomark _)))))) (pss_one (ps_ret pe_bl)) pss_nil)
      (pss_one (ps_ret (pe_cmpR (op_eqD hr.units) (pe_lc (own := [("_law_letter", 1)]) (g := gName 1) rfl S.nd (pi_str (pv 0)) (blkOk_by (N := NLt) (sc := defScope sLTitle) (by decide +kernel)) (fun _ _ _ _ _ => pg_name (i := 1) S.nd rfl (.inl rfl)) (fun _ _ _ _ _ => pts_one (pt_cmpR op_notIn_sign (pv 1) pe_str (by rfl)))
        (fun _ _ _ _ _ => pv 1)) (pe_lst pa_nil) (nomark _)))), ?_⟩
    refine ⟨_, rfl, v, .ty "str", .type (tyN w), .type "str", isTy "str" w, rfl, .ty _, hv.ty, Is.kit (by decide), _, rfl, ?_⟩
    have hs : (∃ x, w = .str x) ∨ (isTy "str" w = false ∧ isNameW w = false) := by
      cases w with
      | str x => exact .inl ⟨x, rfl⟩
      | _ => exact .inr ⟨by kernel_rfl, rfl⟩
    rcases hs with ⟨x, rfl⟩ | ⟨e1, e2⟩
    · cases hv with
      | str x hx hok =>
        have e : isTy "str" (.str x) = true := by kernel_rfl
        have big : (900 : Nat) ≤ sizeLine := by decide
        have fin : isName x = false → Q (.bl false) H := fun e => by
          have z := q H (Same.refl _)
          rw [show isNameW (.str x) = isName x from rfl, e] at z
          exact z
        rw [e]
        refine iteF ⟨_, rfl, x, rfl, Nat.le_trans hx big, _, _, rfl, rfl, _, rfl, ?_⟩
        cases e1 : decide ((1 : Int) ≤ (x.length : Int)) with
        | false => exact iteF ⟨_, rfl, iteT (iteT (fin (by
            have z : decide (1 ≤ x.cps.size) = false := decide_eq_false fun z => of_decide_eq_false e1 (by exact Int.ofNat_le.mpr z)
            unfold isName
            rw [z]
            rfl)))⟩
        | true =>
          refine iteT ⟨_, _, rfl, rfl, _, rfl, ?_⟩
          have z1 : decide (1 ≤ x.cps.size) = true := decide_eq_true (Int.ofNat_le.mp (of_decide_eq_true e1))
          cases e3 : decide ((x.length : Int) ≤ 6) with
          | false => exact iteT (iteT (fin (by
              have z : decide (x.cps.size ≤ 6) = false := decide_eq_false fun z => of_decide_eq_false e3 (by exact Int.ofNat_le.mpr z)
              unfold isName
              rw [z1, z]
              rfl)))
          | true =>
            have z2 : decide (x.cps.size ≤ 6) = true := decide_eq_true (Int.ofNat_le.mp (of_decide_eq_true e3))
            refine iteF ⟨_, rfl, rfl, _, rfl, ?_⟩
            have et : decide (V.str x = V.str "t") = decide (x = "t") := by
              by_cases h : x = "t"
              · subst h; rw [decide_eq_true rfl, decide_eq_true rfl]
              · rw [decide_eq_false h, decide_eq_false fun z => h (V.str.inj z)]
            have en : isName x = (!decide (x = "t") && x.cps.toList.all fun c => decide (c ∈ LET.cps.toList)) := by
              unfold isName
              rw [z1, z2]
              rfl
            rw [show decide (V.str x = V.str (Str.ofString "t")) = decide (x = "t") from et]
            cases e4 : decide (x = ("t" : Str)) with
            | true => exact iteT (fin (by rw [en, e4]; rfl))
            | false =>
              rw [e4] at en
              refine iteF ⟨_, rfl, x, rfl, fun D nD => lc_it (D := D) walk_str (PF H D (fun c => !decide (c ∈ LET.cps.toList)) x.cps.toList) ⟨same_new nD, upd_same⟩ (fun _ _ _ _ => trivial) ?_ ?_⟩
              · rintro i v H3 H4 hi p ⟨rfl, c, hcx, rfl⟩
                have hc : x.cps.toList[i]? = some c := by rw [Array.getElem?_toList]; exact hcx
                have tk : x.cps.toList.take (i + 1) = x.cps.toList.take i ++ [c] := by
                  rw [List.take_add_one, hc]
                  rfl
                refine ⟨rfl, _, rfl, c, LET, rfl, rfl, _, rfl, ?_⟩
                cases e5 : decide (c ∈ LET.cps.toList) with
                | true =>
                  refine iteF ⟨p.1, ?_⟩
                  rw [p.2, tk, List.filter_append]
                  simp only [List.filter_cons, e5, Bool.not_true, Bool.false_eq_true, if_false, List.filter_nil, List.append_nil]
                | false =>
                  refine iteT ⟨_, rfl, _, p.2, ?_, same_own nD p.1, ?_⟩
                  · rw [List.length_map]
                    refine small1000 (Nat.le_trans (List.length_filter_le _ _) ?_)
                    rw [List.length_take]
                    omega
                  · rw [upd_same, tk, List.filter_append, List.map_append]
                    simp only [List.filter_cons, e5, Bool.not_false, if_true, List.filter_nil, List.map_cons, List.map_nil]
              · rintro H3 ⟨s3, h3⟩
                rw [← Array.length_toList, List.take_length] at h3
                refine ⟨Nat.zero_le _, fun e ne => ?_⟩
                have all_ : (x.cps.toList.all fun c => decide (c ∈ LET.cps.toList)) = (x.cps.toList.filter fun c => !decide (c ∈ LET.cps.toList)).isEmpty := by
                  generalize x.cps.toList = cs
                  induction cs with
                  | nil => rfl
                  | cons c cs ih =>
                    rw [List.all_cons, ih, List.filter_cons]
                    cases decide (c ∈ LET.cps.toList) <;> rfl
                have inr : ∀ c ∈ x.cps.toList.filter fun c => !decide (c ∈ LET.cps.toList), c < 0x110000 := fun c hc => by
                  have z := (List.mem_filter.mp hc).1
                  unfold PyData.strOk at hok
                  rw [← Array.all_toList, List.all_eq_true] at hok
                  exact of_decide_eq_true (hok c z)
                have sm := sms_signs inr
                rw [all_] at en
                have s4 : Same H (upd H3 e (.lst [])) := s3.trans (same_new ne)
                have h4 : (upd H3 e (.lst [])) D = some (.lst ((x.cps.toList.filter fun c => !decide (c ∈ LET.cps.toList)).map fun c => V.str ⟨#[c]⟩)) := by
                  rw [upd_ne (ne_of_none h3 ne)]
                  exact h3
                refine ⟨_, .list [], .lst (SqL.of h4) sm.dp, .lst (SqL.of upd_same) .nil, sm.flat, rfl, ?_⟩
                have z := q _ s4
                rw [show isNameW (.str x) = isName x from rfl, en] at z
                generalize (x.cps.toList.filter fun c => !decide (c ∈ LET.cps.toList)) = cs at z ⊢
                cases cs with
                | nil => exact z
                | cons c cs => exact z
    · rw [e1]
      have z := q H (Same.refl _)
      rw [e2] at z
      exact iteT (iteT z)
end
end Kn
-- part Lr
set_option maxHeartbeats 8000000
namespace Kn
open PySem PySem.Spec PyProof.Rows L2 Err
abbrev sLRows : Stmt := topS 29
abbrev NLr : List Str := ["_law_draw", "_law_model", "_law_most", "_law_found", "_law_turn"]
theorem scLr : FnScope NLr ["_law_draw", "_law_model", "_law_most"] (defScope sLRows) := ⟨rfl, rfl, rfl, by decide +kernel, rfl, by decide +kernel, by decide +kernel⟩
/-- rows, each a new tuple -/
inductive RowL (H H' : Hp) (ts : List Str) : List V → List (Str × Int) → Prop
  | nil : RowL H H' ts [] []
  | snoc {rs : List V} {ws : List (Str × Int)} {a : Addr} {t : Str} {k : Int} (h : RowL H H' ts rs ws) (n : H a = none) (e : H' a = some (.tup [.str t, .int k])) (m : t ∈ ts) : RowL H H' ts (rs ++ [.ref a]) (ws ++ [(t, k)])
theorem RowL.mono {H H1 H2 : Hp} {ts : List Str} {rs : List V} {ws : List (Str × Int)} (h : RowL H H1 ts rs ws) (k : ∀ a xs, H a = none → H1 a = some (.tup xs) → H2 a = some (.tup xs)) : RowL H H2 ts rs ws := by
  induction h with
  | nil => exact .nil
  | snoc h n e m ih => exact .snoc ih n (k _ _ n e) m
theorem RowL.len {H H1 : Hp} {ts : List Str} {rs : List V} {ws : List (Str × Int)} (h : RowL H H1 ts rs ws) : rs.length = ws.length := by
  induction h with
  | nil => rfl
  | snoc h n e m ih => rw [List.length_append, List.length_append, ih]; rfl
def spLRows : Sp := fun vs H Q _ => ∃ d l c m s ts, ∃ n : Nat, vs = [.ref d, .ref m, .int n] ∧ Drw H d l c ∧ H m = some (.dK [(.inr "sorts", .ref s)]) ∧ H s = some (.lst (ts.map V.str)) ∧ s ≠ l ∧ 0 < ts.length ∧ ts.length ≤ 1000 ∧ n ≤ 100 ∧
  ∀ p rs ws H', Drw H' d l c → But d l H H' → H p = none → H' p = some (.lst rs) → RowL H H' ts rs ws → rs.length ≤ n → Q (.ref p) H'
section
variable {P : Program} {w : World} {K : PySem.W.Frag} {mg : Str → Option Value} {base : Heap}
theorem ok_lrows {f fT fP : Addr} {fd fdT fdP : FuncData} (F : Fun K "_law_rows" "_law_rows" sLRows f fd) (GT : FnOk P w K mg base CX0 2 fT fdT ["_law_draw", "_law_amount"] spTake) (kT : PySem.W.keepIn K (.ref fT) = true)
    (bT : Binds K fdT ["_law_draw", "_law_amount"] []) (gT : mg "_law_take" = some (.ref fT)) (GP : FnOk P w K mg base CX0 3 fP fdP ["_law_draw", "_law_some"] spPick) (kP : PySem.W.keepIn K (.ref fP) = true) (bP : Binds K fdP ["_law_draw", "_law_some"] []) (gP : mg "_law_pick" = some (.ref fP)) (mr : mg "range" = none) :
    FnOk P w K mg base CX0 4 f fd ["_law_draw", "_law_model", "_law_most"] spLRows := by
  have S := scLr
  refine F.ok S (fun vs H Q E h => ?_) (fun cdv A outer s H vs Q E hr h => ?_)
  · obtain ⟨d, l, c, m, s, ts, n, rfl, _⟩ := h
    rfl
  · obtain ⟨d, l, c, m, s, ts, n, rfl, D, hm, hs, sl, t0, t1, hn, q⟩ := h
    have hu := hu_of hr
    have hr2 := hr.mono (show 2 ≤ 3 by decide)
    refine ⟨_, pss_cons (ps_set (i := 3) S.nd rfl (.inl rfl) (pe_lst pa_nil))
      (pss_cons (ps_for PassesOwn.never rfl (pi_range1 (by rfl) mr (pa_cons (pe_call GT hr2 (by rfl) gT kT bT .nil pass0 (pa_cons (pv 0) (pa_cons (pe_op op_add (pv 2) pe_int) pa_nil))) pa_nil)) (pg_name (i := 4) S.nd rfl (.inl rfl))
        (pss_one (ps_expr (pe_bm PySem.F.plainAttrs_list PySem.F.slot_list_append PySem.F.type_list_append mt_append (pv 3) (pa_cons (pe_tup (pa_cons (pe_call GP hr (by rfl) gP kP bP .nil pass0 (pa_cons (pv 0) (pa_cons (pe_dget hu (pv 1) pe_str (fun _ _ => rfl)) pa_nil)))
          (pa_cons (pe_call GP hr (by rfl) gP kP bP .nil pass0 (pa_cons (pv 0) (pa_cons (pe_lst (pa_cons pe_int (pa_cons pe_int (pa_cons pe_int (pa_cons pe_int (pa_cons pe_int (pa_cons (pe_un un_neg pe_int) (pa_cons (pe_un un_neg pe_int) (pa_cons pe_int pa_nil))))))))) pa_nil))) pa_nil))) pa_nil)))))
      (pss_one (ps_ret (pv 3)))), ?_⟩
    have hd0 : ∃ o, H d = some o := by obtain ⟨⟨r, t, e⟩, _, _, _⟩ := D; exact ⟨_, e⟩
    have hl0 : ∃ o, H l = some o := by obtain ⟨_, ⟨ns, e⟩, _, _⟩ := D; exact ⟨_, e⟩
    have hmd : m ≠ d := fun z => by
      obtain ⟨⟨r, t, e⟩, _, _, _⟩ := D
      rw [z, e] at hm
      have z2 := Option.some.inj hm
      cases z2
    have hml : m ≠ l := fun z => by
      obtain ⟨_, ⟨ns, e⟩, _, _⟩ := D
      rw [z, e] at hm
      cases hm
    have hsd : s ≠ d := fun z => by
      obtain ⟨⟨r, t, e⟩, _, _, _⟩ := D
      rw [z, e] at hs
      cases hs
    refine ⟨Nat.zero_le _, fun po npo => ?_⟩
    have pd : po ≠ d := fun e => by obtain ⟨o, z⟩ := hd0; rw [← e, npo] at z; cases z
    have pl : po ≠ l := fun e => by obtain ⟨o, z⟩ := hl0; rw [← e, npo] at z; cases z
    refine ⟨_, rfl, _, rfl, _, _, rfl, rfl, d, l, c, (n : Int) + 1, rfl, D.new npo, by omega, by omega, fun k H1 k0 k1 D1 B1 => ?_⟩
    have B1 : But d l H H1 := (But.new npo).trans B1
    have hp1 : H1 po = some (.lst []) := by
      have z := (show But d l (upd H po (.lst [])) H1 from by assumption) po _ upd_same pd pl
      exact z
    refine ⟨k, rfl, by omega, by omega, for_range (fun i σ H2 => ∃ y rs ws, σ = [some (.ref d), some (.ref m), some (.int n), some (.ref po), y] ∧ Drw H2 d l c ∧ But d l H H2 ∧ H2 po = some (.lst rs) ∧ RowL H H2 ts rs ws ∧ rs.length = i)
      ⟨_, [], [], rfl, D1, B1, hp1, .nil, rfl⟩ ?_ ?_⟩
    · rintro i σ H2 hi ⟨y, rs, ws, rfl, D2, B2, hp2, rl, hlen⟩
      have hm2 := B2 _ _ hm hmd hml
      have hs2 := B2 _ _ hs hsd sl
      refine ⟨_, rfl, .inl ⟨rfl, _, SqL.of hp2⟩, _, rfl, _, rfl, m, _, rfl, DGet.k (k := .inr "sorts") hm2, ?_⟩
      refine ⟨d, l, c, s, ts.map V.str, rfl, D2, hs2, sl, by rw [List.length_map]; exact t0, by rw [List.length_map]; exact t1, fun j x H3 hx D3 B3 => ?_⟩
      obtain ⟨t, ht, rfl⟩ : ∃ t, t ∈ ts ∧ x = V.str t := by
        rw [List.getElem?_map] at hx
        obtain ⟨t, e1, e2⟩ := Option.map_eq_some_iff.mp hx
        exact ⟨t, List.mem_of_getElem? e1, e2.symm⟩
      have hp3 := B3 _ _ hp2 pd pl
      have keepT : ∀ {Ha Hb : Hp}, But d l Ha Hb → ∀ a xs, H a = none → Ha a = some (.tup xs) → Hb a = some (.tup xs) := fun {Ha Hb} b a xs n e => by
        refine b a _ e (fun z => ?_) fun z => ?_
        · obtain ⟨o, w⟩ := hd0
          rw [← z, n] at w
          cases w
        · obtain ⟨o, w⟩ := hl0
          rw [← z, n] at w
          cases w
      have rl3 := rl.mono (keepT B3)
      refine ⟨_, rfl, _, rfl, _, rfl, by show 8 ≤ sizeLine; decide, fun e ne => ?_⟩
      have el : e ≠ l := fun z => by
        obtain ⟨_, ⟨ns, w⟩, _, _⟩ := D3
        rw [← z, ne] at w
        cases w
      refine ⟨d, l, c, e, [.int 0, .int 1, .int 1, .int 2, .int 3, .int (-1), .int (-2), .int 10], rfl, D3.new ne, upd_same, el, by decide, by decide, fun j2 x2 H4 hx2 D4 B4 => ?_⟩
      obtain ⟨k2, rfl⟩ : ∃ k2, x2 = V.int k2 := by
        have hm := List.mem_of_getElem? hx2
        simp only [List.mem_cons, List.not_mem_nil, or_false] at hm
        rcases hm with z | z | z | z | z | z | z | z <;> exact ⟨_, z⟩
      have B34 : But d l H3 H4 := (But.new ne).trans B4
      have hp4 := B34 _ _ hp3 pd pl
      have rl4 := rl3.mono (keepT B34)
      refine ⟨by show 2 ≤ sizeLine; decide, fun u nu => ?_⟩
      have B5 : But d l H (upd H4 u (.tup [.str t, .int k2])) := ((B2.trans B3).trans B34).trans (But.new nu)
      have hp5 : (upd H4 u (.tup [.str t, .int k2])) po = some (.lst rs) := by rw [upd_ne (ne_of_none hp4 nu)]; exact hp4
      have hu5 : (upd H4 u (.tup [.str t, .int k2])) u = some (.tup [.str t, .int k2]) := upd_same
      have D5 := D4.new (o := .tup [.str t, .int k2]) nu
      have nH : H u = none := by
        cases z : H u with
        | none => rfl
        | some o =>
          by_cases e1 : u = d
          · obtain ⟨⟨_, _, w⟩, _, _, _⟩ := D4
            rw [← e1, nu] at w
            cases w
          · by_cases e2 : u = l
            · obtain ⟨_, ⟨_, w⟩, _, _⟩ := D4
              rw [← e2, nu] at w
              cases w
            · have w := ((B2.trans B3).trans B34) u o z e1 e2
              rw [nu] at w
              cases w
      have rl5 := rl4.mono (H2 := upd H4 u (.tup [.str t, .int k2])) fun a xs n e => by rw [upd_ne (ne_of_none e nu)]; exact e
      generalize upd H4 u (.tup [.str t, .int k2]) = H5 at B5 hp5 hu5 D5 rl5 ⊢
      refine ⟨po, rs, .ref u, rfl, rfl, hp5, small1000 (by omega), _, rs ++ [.ref u], ws ++ [(t, k2)], rfl, D5.own D npo, B5.own npo, upd_same, ?_, by rw [List.length_append, hlen]; rfl⟩
      refine (RowL.snoc rl5 nH hu5 ht).mono fun a xs n e => ?_
      have ne2 : a ≠ po := fun z => by rw [z, hp5] at e; cases e
      rw [upd_ne ne2]
      exact e
    · rintro σ H2 ⟨y, rs, ws, rfl, D2, B2, hp2, rl, hlen⟩
      exact ⟨_, rfl, q po rs ws H2 D2 B2 npo hp2 rl (by omega)⟩
end
end Kn
-- part Pf
set_option maxHeartbeats 8000000
namespace Kn
open PySem PySem.Spec PyProof.Rows L2 Err
abbrev sCls : Stmt := topS 19
abbrev sInit : Stmt := inClass sCls 0
abbrev sEqP : Stmt := inClass sCls 1
abbrev sStepsP : Stmt := inClass sCls 2
abbrev sGoodP : Stmt := inClass sCls 3
abbrev sStatesP : Stmt := inClass sCls 4
abbrev sKindsP : Stmt := inClass sCls 5
abbrev sFits : Stmt := inClass sCls 6
abbrev sAlong : Stmt := inClass sCls 7
def pflds (ds : Addr) (n : Int) (tg : Addr) : List (Str × V) := [("_steps", .ref ds), ("_states", .int n), ("_good", .ref tg)]
theorem pf_steps (ds : Addr) (n : Int) (tg : Addr) : (pflds ds n tg).lookup ("_steps" : Str) = some (.ref ds) := by kernel_rfl
theorem pf_states (ds : Addr) (n : Int) (tg : Addr) : (pflds ds n tg).lookup ("_states" : Str) = some (.int n) := by kernel_rfl
theorem pf_good (ds : Addr) (n : Int) (tg : Addr) : (pflds ds n tg).lookup ("_good" : Str) = some (.ref tg) := by kernel_rfl
/-- the lines of a pattern, tuples -/
inductive LinT (H : Hp) : List (Key × V) → List (Str × List Int) → Prop
  | nil : LinT H [] []
  | cons {kvs : List (Key × V)} {st : List (Str × List Int)} {t : Str} {a : Addr} {ns : List Int} (h : Rd H a (.tup (ns.map V.int))) (r : LinT H kvs st) : LinT H ((.inr t, .ref a) :: kvs) ((t, ns) :: st)
theorem LinT.same {H H' : Hp} {kvs : List (Key × V)} {st : List (Str × List Int)} (h : LinT H kvs st) (s : Same H H') : LinT H' kvs st := by
  induction h with
  | nil => exact .nil
  | cons h r ih => exact .cons (Rd.same h s) ih
theorem LinT.keys {H : Hp} {kvs : List (Key × V)} {st : List (Str × List Int)} (h : LinT H kvs st) : kvs.map (·.1) = (st.map (·.1)).map Sum.inr := by
  induction h with
  | nil => rfl
  | cons h r ih => rw [List.map_cons, List.map_cons, List.map_cons, ih]
theorem valV_cons (k k2 : Key) (v : V) (kvs : List (Key × V)) : valV ((k, v) :: kvs) k2 = if k = k2 then some v else valV kvs k2 := by
  unfold valV
  by_cases h : k = k2
  · rw [List.find?_cons_of_pos (by simpa using h), if_pos h]; rfl
  · rw [List.find?_cons_of_neg (by simpa using h), if_neg h]
theorem look_cons (k k2 : Str) (v : List Int) (st : List (Str × List Int)) : ((k, v) :: st).lookup k2 = if k = k2 then some v else st.lookup k2 := by
  rw [List.lookup_cons]
  by_cases h : k = k2
  · rw [if_pos h, h]; simp
  · rw [if_neg h]
    have : (k2 == k) = false := by simpa using fun z => h z.symm
    rw [this]
theorem LinT.get {H : Hp} {kvs : List (Key × V)} {st : List (Str × List Int)} {t : Str} {ns : List Int} (h : LinT H kvs st) (e : st.lookup t = some ns) : ∃ a, valV kvs (.inr t) = some (.ref a) ∧ Rd H a (.tup (ns.map V.int)) := by
  induction h with
  | nil => cases e
  | @cons kvs st t2 a ms h r ih =>
    rw [look_cons] at e
    rw [valV_cons]
    by_cases q : t2 = t
    · rw [if_pos q] at e
      cases e
      exact ⟨a, by rw [if_pos (by rw [q])], h⟩
    · rw [if_neg q] at e
      rw [if_neg fun z => q (Sum.inr.inj z)]
      exact ih e
/-- a pattern stands at p -/
structure PatAt (C : Addr) (H : Hp) (p : Addr) (n : Nat) (st : List (Str × List Int)) (gs : List Int) : Prop where
  ex : ∃ dx ds tg kvs, H p = some (.ins C dx (pflds ds n tg)) ∧ H ds = some (.dK kvs) ∧ LinT H kvs st ∧ Rd H tg (.tup (gs.map V.int))
theorem PatAt.same {C : Addr} {H H' : Hp} {p : Addr} {n : Nat} {st : List (Str × List Int)} {gs : List Int} (h : PatAt C H p n st gs) (s : Same H H') : PatAt C H' p n st gs := by
  obtain ⟨dx, ds, tg, kvs, h1, h2, h3, h4⟩ := h.ex
  exact ⟨dx, ds, tg, kvs, s _ _ h1, s _ _ h2, h3.same s, Rd.same h4 s⟩
/-- what the lines are -/
structure PatOk (n : Nat) (st : List (Str × List Int)) : Prop where
  n1 : 1 ≤ n
  n4 : n ≤ 4
  ne : st ≠ []
  few : st.length ≤ 3
  nd : (st.map (·.1)).Nodup
  row : ∀ t ns, st.lookup t = some ns → ns.length = n ∧ ∀ k ∈ ns, 0 ≤ k ∧ k < (n : Int)
def stepF (st : List (Str × List Int)) (s : Int) (t : Str) : Int := ((st.lookup t).getD []).getD s.toNat 0
def goF (st : List (Str × List Int)) (ts : List Str) : Int := ts.foldl (stepF st) 0
def fitsF (st : List (Str × List Int)) (gs : List Int) (ts : List Str) : Bool := decide (goF st ts ∈ gs)
theorem stepF_in {n : Nat} {st : List (Str × List Int)} (ok : PatOk n st) {s : Int} (h0 : 0 ≤ s) (h1 : s < n) {t : Str} {ns : List Int} (e : st.lookup t = some ns) : ns[s.toNat]? = some (stepF st s t) ∧ 0 ≤ stepF st s t ∧ stepF st s t < n := by
  obtain ⟨l, r⟩ := ok.row t ns e
  have hs : s.toNat < ns.length := by omega
  have e1 : stepF st s t = ns[s.toNat] := by
    unfold stepF
    rw [e]
    simp [List.getD, List.getElem?_eq_getElem hs]
  rw [e1]
  exact ⟨List.getElem?_eq_getElem hs, r _ (List.getElem_mem hs)⟩
/-- rows: tuples of a kind and a number -/
inductive RowT (H : Hp) : List V → List Str → Prop
  | nil : RowT H [] []
  | cons {rs : List V} {ts : List Str} {a : Addr} {t : Str} {k : V} (h : H a = some (.tup [.str t, k])) (r : RowT H rs ts) : RowT H (.ref a :: rs) (t :: ts)
theorem RowT.same {H H' : Hp} {rs : List V} {ts : List Str} (h : RowT H rs ts) (s : Same H H') : RowT H' rs ts := by
  induction h with
  | nil => exact .nil
  | cons h r ih => exact .cons (s _ _ h) ih
theorem RowT.len {H : Hp} {rs : List V} {ts : List Str} (h : RowT H rs ts) : rs.length = ts.length := by
  induction h with
  | nil => rfl
  | cons h r ih => rw [List.length_cons, List.length_cons, ih]
theorem RowT.get {H : Hp} : ∀ {rs : List V} {ts : List Str} {i : Nat} {x : V}, RowT H rs ts → rs[i]? = some x → ∃ a t k, x = .ref a ∧ ts[i]? = some t ∧ H a = some (.tup [.str t, k])
  | _, _, 0, x, .cons (a := a) (t := t) (k := k) h r, e => ⟨a, t, k, (Option.some.inj e).symm, rfl, h⟩
  | _, _, i + 1, x, .cons h r, e => by
    obtain ⟨a, t, k, e1, e2, e3⟩ := r.get (i := i) (by simpa using e)
    exact ⟨a, t, k, e1, by simpa using e2, e3⟩
def marksF (st : List (Str × List Int)) (gs : List Int) (ts : List Str) (i : Nat) : List V := (List.range (i + 1)).map fun j => V.bl (fitsF st gs (ts.take j))
theorem inV_ints (gs : List Int) (k : Int) : inV (.int k) (gs.map V.int) = decide (k ∈ gs) := by
  unfold inV
  rw [List.any_map]
  induction gs with
  | nil => rfl
  | cons g gs ih =>
    rw [List.any_cons, ih]
    show (eqV (.int g) (.int k) || _) = _
    by_cases h : g = k
    · subst h
      have : eqV (.int g) (.int g) = true := by simp [eqV]
      rw [this]
      simp
    · have : eqV (.int g) (.int k) = false := by simp [eqV, h]
      rw [this]
      simp only [Bool.false_or, List.mem_cons]
      exact decide_eq_decide.mpr ⟨.inr, fun z => z.resolve_left fun y => h y.symm⟩
theorem flat_ints (gs : List Int) : (gs.map V.int).all flatV = true := by
  rw [List.all_eq_true]
  intro x hx
  obtain ⟨i, _, rfl⟩ := List.mem_map.mp hx
  rfl
abbrev NAl : List Str := ["self", "rows", "state", "marks", "kind", "_"]
theorem scAl : FnScope NAl ["self", "rows"] (defScope sAlong) := ⟨rfl, rfl, rfl, by decide +kernel, rfl, by decide +kernel, by decide +kernel⟩
def spAlong (C : Addr) : Sp := fun vs H Q _ => ∃ p n st gs l rs ts, vs = [.ref p, .ref l] ∧ PatAt C H p n st gs ∧ PatOk n st ∧ H l = some (.lst rs) ∧ RowT H rs ts ∧ rs.length ≤ 900 ∧ (∀ t ∈ ts, ∃ ns, st.lookup t = some ns) ∧
  ∀ m H', Same H H' → H m = none → H' m = some (.lst (marksF st gs ts ts.length)) → Q (.ref m) H'
/-- what the class's defs ask of the class -/
structure PTxt (K : PySem.W.Frag) (C : Addr) : Prop where
  cl : Cls K C
  nS : NoAttr K C "_steps"
  nT : NoAttr K C "_states"
  nG : NoAttr K C "_good"
theorem goF_succ {st : List (Str × List Int)} {ts : List Str} {i : Nat} {t : Str} (e : ts[i]? = some t) : goF st (ts.take (i + 1)) = stepF st (goF st (ts.take i)) t := by
  unfold goF
  rw [List.take_add_one, e]
  simp
theorem goF_in {n : Nat} {st : List (Str × List Int)} (ok : PatOk n st) {ts : List Str} (hts : ∀ t ∈ ts, ∃ ns, st.lookup t = some ns) : ∀ i, 0 ≤ goF st (ts.take i) ∧ goF st (ts.take i) < n
  | 0 => by
    have := ok.n1
    show (0 : Int) ≤ 0 ∧ (0 : Int) < n
    omega
  | i + 1 => by
    cases e : ts[i]? with
    | none =>
      rw [List.take_add_one, e]
      simp only [Option.toList_none, List.append_nil]
      exact goF_in ok hts i
    | some t =>
      obtain ⟨h0, h1⟩ := goF_in ok hts i
      obtain ⟨ns, en⟩ := hts t (List.mem_of_getElem? e)
      rw [goF_succ e]
      exact (stepF_in ok h0 h1 en).2
theorem marksF_succ (st : List (Str × List Int)) (gs : List Int) (ts : List Str) (i : Nat) : marksF st gs ts (i + 1) = marksF st gs ts i ++ [V.bl (fitsF st gs (ts.take (i + 1)))] := by
  unfold marksF
  rw [List.range_succ, List.map_append]
  rfl
section
variable {P : Program} {w : World} {K : PySem.W.Frag} {mg : Str → Option Value} {base : Heap}
theorem ok_along {f C : Addr} {fd : FuncData} (F : Fun K "fits_along" "Pattern.fits_along" sAlong f fd) (T : PTxt K C) : FnOk P w K mg base CX0 1 f fd ["self", "rows"] (spAlong C) := by
  have S := scAl
  refine F.ok S (fun vs H Q E h => ?_) (fun cdv A outer s H vs Q E hr h => ?_)
  · obtain ⟨p, n, st, gs, l, rs, ts, rfl, _⟩ := h
    rfl
  · obtain ⟨p, n, st, gs, l, rs, ts, rfl, hp, ok, hl, hrs, hz, hts, q⟩ := h
    have hu := hu_of hr
    refine ⟨_, pss_cons (ps_set (i := 2) S.nd rfl (.inl rfl) pe_int)
      (pss_cons (ps_set (i := 3) S.nd rfl (.inl rfl) (pe_lst (pa_cons (pe_cmpR op_in_seq (pv 2) (pe_fld (pv 0) rfl) (by rfl)) pa_nil)))
      (pss_cons (ps_for PassesOwn.never rfl (pi_list (pv 1)) (pg_tup rfl (pgs_cons (pg_name (i := 4) S.nd rfl (.inl rfl)) (pgs_cons (pg_name (i := 5) S.nd rfl (.inl rfl)) pgs_nil)))
        (pss_cons (ps_set (i := 2) S.nd rfl (.inl rfl) (pe_ix ix_tup (pe_dget hu (pe_fld (pv 0) rfl) (pv 4) (fun _ _ => rfl)) (pv 2) (fun _ _ => rfl)))
        (pss_one (ps_expr (pe_bm PySem.F.plainAttrs_list PySem.F.slot_list_append PySem.F.type_list_append mt_append (pv 3) (pa_cons (pe_cmpR op_in_seq (pv 2) (pe_fld (pv 0) rfl) (by rfl)) pa_nil))))))
      (pss_one (ps_ret (pv 3))))), ?_⟩
    obtain ⟨dx, ds, tg, kvs, h1, h2, h3, h4⟩ := hp.ex
    refine ⟨_, rfl, _, rfl, p, C, dx, _, _, rfl, h1, T.cl, T.nG, pf_good _ _ _, ?_⟩
    refine ⟨tg, _, rfl, .inr (.inl h4), rfl, flat_ints _, (by show 1 ≤ sizeLine; decide), fun m nm => ?_⟩
    have e0 : (V.bl (if false = true then !inV (.int 0) (gs.map V.int) else inV (.int 0) (gs.map V.int))) = V.bl (fitsF st gs (ts.take 0)) := by rw [if_neg (by decide), inV_ints]; rfl
    have eL : [V.bl (if false = true then !inV (.int 0) (gs.map V.int) else inV (.int 0) (gs.map V.int))] = marksF st gs ts 0 := by rw [e0]; rfl
    rw [eL]
    have s1 : Same H (upd H m (.lst (marksF st gs ts 0))) := same_new nm
    have hm1 : (upd H m (.lst (marksF st gs ts 0))) m = some (.lst (marksF st gs ts 0)) := upd_same
    generalize upd H m (.lst (marksF st gs ts 0)) = H1 at s1 hm1 ⊢
    refine ⟨_, rfl, l, rfl, ⟨_, SqL.of (s1 _ _ hl)⟩, for_list (xs := rs) (fun i σ H2 => ∃ y4 y5, σ = [some (.ref p), some (.ref l), some (.int (goF st (ts.take i))), some (.ref m), y4, y5] ∧ Same H H2 ∧ H2 m = some (.lst (marksF st gs ts i)))
      ⟨_, _, rfl, s1, hm1⟩ (fun i σ H2 _ ⟨_, _, _, s2, _⟩ => SqL.of (s2 _ _ hl)) ?_ ?_⟩
    · rintro i x σ H2 hx ⟨y4, y5, rfl, s2, hm2⟩
      obtain ⟨a, t, k, rfl, ht, ha⟩ := hrs.get hx
      obtain ⟨ns, hns⟩ := hts t (List.mem_of_getElem? ht)
      obtain ⟨g0, g1⟩ := goF_in ok hts i
      obtain ⟨e1, e2, e3⟩ := stepF_in ok g0 g1 hns
      obtain ⟨b, hb, hrb⟩ := h3.get hns
      have hi := (List.getElem?_eq_some_iff.mp hx).1
      refine ⟨a, _, rfl, .inl (.inl (s2 _ _ ha)), rfl, ?_⟩
      refine ⟨_, _, rfl, _, _, rfl, rfl, ?_⟩
      refine ⟨_, rfl, p, C, dx, _, _, rfl, s2 _ _ h1, T.cl, T.nS, pf_steps _ _ _, _, rfl, ds, _, rfl, hb ▸ DGet.k (k := Sum.inr t) (s2 _ _ h2), _, rfl, b, _, _, _, rfl, rfl, .inl (Rd.same hrb s2), at_of (by omega : goF st (ts.take i) = ((goF st (ts.take i)).toNat : Int)) (by rw [List.getElem?_map, e1]; rfl), ?_⟩
      refine ⟨_, rfl, .inl ⟨rfl, _, SqL.of hm2⟩, _, rfl, _, rfl, p, C, dx, _, _, rfl, s2 _ _ h1, T.cl, T.nG, pf_good _ _ _, ?_⟩
      refine ⟨tg, _, rfl, .inr (.inl (Rd.same h4 s2)), rfl, flat_ints _, m, _, _, rfl, rfl, hm2, ?_, some (.str t), some k, ?_, same_own nm s2, ?_⟩
      · unfold marksF
        rw [List.length_map, List.length_range]
        exact small1000 (by omega)
      · rw [goF_succ ht]
        rfl
      · rw [if_neg (by decide), inV_ints, upd_same, marksF_succ, fitsF, goF_succ ht]
    · rintro σ H2 ⟨y4, y5, rfl, s2, hm2⟩
      rw [hrs.len] at hm2
      exact ⟨_, rfl, q m H2 s2 nm hm2⟩
abbrev NFi : List Str := ["self", "rows"]
theorem scFi : FnScope NFi ["self", "rows"] (defScope sFits) := ⟨rfl, rfl, rfl, by decide +kernel, rfl, by decide +kernel, by decide +kernel⟩
/-- fits: of any value, or of rows that are right -/
def spFits (C CR : Addr) : Sp := fun vs H Q E => ∃ p n st gs v, vs = [.ref p, v] ∧ PatAt C H p n st gs ∧ PatOk n st ∧
  ((∃ (r : V), (∀ kvs, LinT H kvs st → ∃ w, Is H v w ∧ badAt kvs w = some r) ∧ ∀ d H', Same H H' → H' d = none → E (.ref CR) (some d) (upd H' d (.xd [("at", r)]))) ∨
   (∃ a rs ts, v = .ref a ∧ SqA H a rs ∧ RowT H rs ts ∧ rs.length ≤ 900 ∧ (∀ t ∈ ts, ∃ ns, st.lookup t = some ns) ∧ (∀ kvs, LinT H kvs st → ∃ w, Is H v w ∧ badAt kvs w = none) ∧ ∀ H', Same H H' → Q (.bl (fitsF st gs ts)) H'))
theorem ok_fits {f C CR f1 f2 : Addr} {fd fd1 fd2 : FuncData} (F : Fun K "fits" "Pattern.fits" sFits f fd) (T : PTxt K C) (G1 : FnOk P w K mg base (L2.CX P w) 3 f1 fd1 ["kinds", "rows"] (spRows CR)) (k1 : PySem.W.keepIn K (.ref f1) = true) (b1 : Binds K fd1 ["kinds", "rows"] []) (g1 : mg "checked_rows" = some (.ref f1))
    (G2 : FnOk P w K mg base CX0 1 f2 fd2 ["self", "rows"] (spAlong C)) (b2 : Binds K fd2 ["self", "rows"] []) (m2 : Meth K C "fits_along" f2) : FnOk P w K mg base (L2.CX P w) 4 f fd ["self", "rows"] (spFits C CR) := by
  have S := scFi
  refine F.okX S (fun vs H Q E h => ?_) (fun cdv A outer s H vs Q E hr h => ?_)
  · obtain ⟨p, n, st, gs, v, rfl, _⟩ := h
    rfl
  · obtain ⟨p, n, st, gs, v, rfl, hp, ok, h⟩ := h
    have hr1 := hr.mono (show 1 ≤ 3 by decide)
    have tk : Takes (cxOf (L2.CX P w) P w K mg base NFi "Pattern.fits" (defScope sFits) f cdv A outer s H E) (fun cls d _ H => E cls d H) := takes_of rfl rfl rfl rfl
    refine ⟨_, pss_one (ps_ret (pe_ix ix_list (pe_meth (pv 0) T.cl m2 G2 hr1 b2 .nil pass0 (pa_cons (pe_call G1 hr (by rfl) g1 k1 b1 .nil (passes_call tk fun _ _ _ _ h => h) (pa_cons (pe_fld (pv 0) rfl) (pa_cons (pv 1) pa_nil))) pa_nil)) (pe_un un_neg pe_int) (fun _ _ => rfl))), ?_⟩
    obtain ⟨dx, ds, tg, kvs, h1, h2, h3, h4⟩ := hp.ex
    refine ⟨_, rfl, p, dx, _, rfl, h1, by kernel_rfl, _, rfl, p, C, dx, _, _, rfl, h1, T.cl, T.nS, pf_steps _ _ _, _, rfl, ?_⟩
    rcases h with ⟨r, hw, hE⟩ | ⟨a, rs, ts, rfl, hsq, hrs, hz, hts, hw, hQ⟩
    · obtain ⟨u, hu, hb⟩ := hw kvs h3
      refine ⟨v, u, ds, kvs, rfl, hu, h2, fun r2 h d H' s' nd => ?_, fun h => by rw [hb] at h; cases h⟩
      rw [hb] at h
      cases h
      exact hE d H' s' nd
    · obtain ⟨u, hu, hb⟩ := hw kvs h3
      refine ⟨_, u, ds, kvs, rfl, hu, h2, fun r2 h => (by rw [hb] at h; cases h), fun _ a2 xs l H' ea hsq2 s' nl => ?_⟩
      cases ea
      have ex : xs = rs := by
        rcases hsq with z | z <;> rcases hsq2 with y | y
        · rw [z] at y; cases y; rfl
        · rcases y with y | ⟨_, y⟩ <;> (rw [z] at y; cases y)
        · rcases z with z | ⟨_, z⟩ <;> (rw [z] at y; cases y)
        · rcases z with z | ⟨_, z⟩ <;> rcases y with y | ⟨_, y⟩ <;> (rw [z] at y; cases y) <;> rfl
      subst ex
      have s2 : Same H (upd H' l (.lst xs)) := s'.trans (same_new nl)
      refine ⟨p, _, st, gs, l, xs, ts, rfl, hp.same s2, ok, upd_same, hrs.same s2, hz, hts, fun m H3 s3 nm hm => ?_⟩
      refine ⟨1, rfl, m, _, -1, _, rfl, rfl, SqL.of hm, ?_, hQ H3 (s2.trans s3)⟩
      have e1 : marksF st gs ts ts.length = (List.range ts.length).map (fun j => V.bl (fitsF st gs (ts.take j))) ++ [V.bl (fitsF st gs ts)] := by
        unfold marksF
        rw [List.range_succ, List.map_append, List.map_singleton, List.take_length]
      rw [e1]
      exact atI_last _ _
end
end Kn
-- part Lp
set_option maxHeartbeats 8000000
namespace Kn
open PySem PySem.Spec PyProof.Rows L2 Err
abbrev sLPat : Stmt := topS 28
abbrev NLp : List Str := ["_law_draw", "_law_sorts_here", "_law_most", "_law_many", "_law_steps_here", "_law_sort", "_law_k"]
theorem scLp : FnScope NLp ["_law_draw", "_law_sorts_here", "_law_most"] (defScope sLPat) := ⟨rfl, rfl, rfl, by decide +kernel, rfl, by decide +kernel, by decide +kernel⟩
/-- the steps of a drawn pattern, each list new -/
inductive StepL (H H' : Hp) (many : Nat) : List Str → List (Key × V) → List (Str × List Int) → Prop
  | nil : StepL H H' many [] [] []
  | snoc {ts : List Str} {kvs : List (Key × V)} {ws : List (Str × List Int)} {a : Addr} {t : Str} {ns : List Int} (h : StepL H H' many ts kvs ws) (n : H a = none) (e : H' a = some (.lst (ns.map V.int))) (len : ns.length = many) (rng : ∀ k ∈ ns, 0 ≤ k ∧ k < (many : Int)) :
      StepL H H' many (ts ++ [t]) (kvs ++ [(.inr t, .ref a)]) (ws ++ [(t, ns)])
theorem StepL.mono {H H1 H2 : Hp} {many : Nat} {ts : List Str} {kvs : List (Key × V)} {ws : List (Str × List Int)} (h : StepL H H1 many ts kvs ws) (k : ∀ a xs, H a = none → H1 a = some (.lst xs) → H2 a = some (.lst xs)) : StepL H H2 many ts kvs ws := by
  induction h with
  | nil => exact .nil
  | snoc h n e len rng ih => exact .snoc ih n (k _ _ n e) len rng
theorem StepL.keys {H H1 : Hp} {many : Nat} {ts : List Str} {kvs : List (Key × V)} {ws : List (Str × List Int)} (h : StepL H H1 many ts kvs ws) : kvs.map (·.1) = ts.map Sum.inr := by
  induction h with
  | nil => rfl
  | snoc h n e len rng ih => rw [List.map_append, List.map_append, ih]; rfl
theorem valV_out {kvs : List (Key × V)} {k : Key} (h : k ∉ kvs.map (·.1)) : valV kvs k = none := by
  unfold valV
  rw [Option.map_eq_none_iff, List.find?_eq_none]
  intro p hp e
  exact h (List.mem_map.mpr ⟨p, hp, of_decide_eq_true e⟩)
def spLPat : Sp := fun vs H Q _ => ∃ d l c so ts, ∃ n : Nat, vs = [.ref d, .ref so, .int n] ∧ Drw H d l c ∧ H so = some (.lst (ts.map V.str)) ∧ so ≠ l ∧ ts.Nodup ∧ ts.length ≤ 16 ∧ 0 < n ∧ n ≤ 100 ∧
  ∀ (p st g : Addr) (kvs : List (Key × V)) (ws : List (Str × List Int)) (gs : List Int) (H' : Hp) (many : Nat), 1 ≤ many → many ≤ n → Drw H' d l c → But d l H H' → H p = none → H' p = some (.dK [(.inr "steps", .ref st), (.inr "good", .ref g)]) → H st = none → H' st = some (.dK kvs) → StepL H H' many ts kvs ws →
    H g = none → H' g = some (.lst (gs.map V.int)) → (∀ k ∈ gs, 0 ≤ k ∧ k < (many : Int)) → gs.Pairwise (· < ·) → Q (.ref p) H'
section
variable {P : Program} {w : World} {K : PySem.W.Frag} {mg : Str → Option Value} {base : Heap}
theorem ok_lpat {f fT : Addr} {fd fdT : FuncData} (F : Fun K "_law_pattern" "_law_pattern" sLPat f fd) (GT : FnOk P w K mg base CX0 2 fT fdT ["_law_draw", "_law_amount"] spTake) (kT : PySem.W.keepIn K (.ref fT) = true)
    (bT : Binds K fdT ["_law_draw", "_law_amount"] []) (gT : mg "_law_take" = some (.ref fT)) (mr : mg "range" = none) : FnOk P w K mg base CX0 3 f fd ["_law_draw", "_law_sorts_here", "_law_most"] spLPat := by
  have S := scLp
  refine F.ok S (fun vs H Q E h => ?_) (fun cdv A outer s H vs Q E hr h => ?_)
  · obtain ⟨d, l, c, so, ts, n, rfl, _⟩ := h
    rfl
  · obtain ⟨d, l, c, so, ts, n, rfl, D, hso, sl, nd, t1, n0, n1, q⟩ := h
    have hu := hu_of hr
    refine ⟨_, pss_cons (ps_asg (pe_tup (pa_cons (pe_op op_add pe_int (pe_call GT hr (by rfl) gT kT bT .nil pass0 (pa_cons (pv 0) (pa_cons (pv 2) pa_nil)))) (pa_cons pe_dnewK pa_nil))) (pg_tup rfl (pgs_cons (pg_name (i := 3) S.nd rfl (.inr rfl)) (pgs_cons (pg_name (i := 4) S.nd rfl (.inl rfl)) pgs_nil))))
      (pss_cons (ps_for PassesOwn.never rfl (pi_list (pv 1)) (pg_name (i := 5) S.nd rfl (.inl rfl))
        (pss_one (ps_dput hu (pv 4) (pv 5) (pe_lc (own := [("_law_k", 6)]) (g := gName 6) rfl S.nd (pi_range1 (by rfl) mr (pa_cons (pv 3) pa_nil)) (blkOk_by (N := NLp) (sc := defScope sLPat) (by decide +kernel)) (fun _ _ _ _ _ => pg_name (i := 6) S.nd rfl (.inl rfl)) (fun _ _ _ _ _ => pts_nil)
          (fun _ _ _ _ _ => pe_call GT hr (by rfl) gT kT bT .nil pass0 (pa_cons (pv 0) (pa_cons (pv 3) pa_nil)))) rfl)))
      (pss_one (ps_ret (pe_disp (pps_cons pe_str (pv 4) (pps_cons pe_str (pe_lc (own := [("_law_k", 6)]) (g := gName 6) rfl S.nd (pi_range1 (by rfl) mr (pa_cons (pv 3) pa_nil)) (blkOk_by (N := NLp) (sc := defScope sLPat) (by decide +kernel)) (fun _ _ _ _ _ => pg_name (i := 6) S.nd rfl (.inl rfl)) (fun _ _ _ _ _ => pts_one (pt_cmpR op_eq (pe_call GT hr (by rfl) gT kT bT .nil pass0 (pa_cons (pv 0) (pa_cons pe_int pa_nil))) pe_int (nomark _)))
          (fun _ _ _ _ _ => pv 6)) pps_nil)) rfl rfl (by decide) (by decide))))), ?_⟩
    have hd0 : ∃ o, H d = some o := by obtain ⟨⟨r, t, e⟩, _, _, _⟩ := D; exact ⟨_, e⟩
    have hl0 : ∃ o, H l = some o := by obtain ⟨_, ⟨ns, e⟩, _, _⟩ := D; exact ⟨_, e⟩
    have off : ∀ {a : Addr}, H a = none → a ≠ d ∧ a ≠ l := fun {a} z => by
      refine ⟨fun e => ?_, fun e => ?_⟩
      · obtain ⟨o, w⟩ := hd0
        rw [← e, z] at w
        cases w
      · obtain ⟨o, w⟩ := hl0
        rw [← e, z] at w
        cases w
    have sod : so ≠ d := fun z => by
      obtain ⟨⟨r, t, e⟩, _, _, _⟩ := D
      rw [z, e] at hso
      cases hso
    have back : ∀ {H2 : Hp} {a : Addr}, Drw H2 d l c → But d l H H2 → H2 a = none → H a = none := fun {H2 a} D2 B2 z => by
      cases w : H a with
      | none => rfl
      | some o =>
        by_cases e1 : a = d
        · obtain ⟨⟨_, _, v⟩, _, _, _⟩ := D2
          rw [← e1, z] at v
          cases v
        · by_cases e2 : a = l
          · obtain ⟨_, ⟨_, v⟩, _, _⟩ := D2
            rw [← e2, z] at v
            cases v
          · rw [B2 a o w e1 e2] at z
            cases z
    refine ⟨_, rfl, _, rfl, d, l, c, (n : Int), rfl, D, by omega, by omega, fun k H1 k0 k1 D1 B1 => ?_⟩
    obtain ⟨j, rfl⟩ : ∃ j : Nat, k = (j : Int) := ⟨k.toNat, by omega⟩
    refine ⟨_, _, rfl, rfl, fun st nst => ⟨by show 2 ≤ sizeLine; decide, fun T nT => ⟨T, _, rfl, .inl (.inl upd_same), rfl, _, _, rfl, _, _, rfl, rfl, ?_⟩⟩⟩
    have em : (1 : Int) + (j : Int) = ((j + 1 : Nat) : Int) := by omega
    have em2 : (fun i j => V.int (i + j)) (1 : Int) (j : Int) = V.int ((j + 1 : Nat) : Int) := congrArg V.int em
    rw [em2]
    have hmany : j + 1 ≤ n := by omega
    generalize hmj : j + 1 = many at hmany ⊢
    have m1 : 1 ≤ many := by omega
    have D2 := (D1.new (o := .dK []) nst).new (o := .tup [V.int (many : Int), V.ref st]) nT
    have B2 : But d l H (upd (upd H1 st (.dK [])) T (.tup [V.int (many : Int), V.ref st])) := (B1.trans (But.new nst)).trans (But.new nT)
    have hst2 : (upd (upd H1 st (.dK [])) T (.tup [V.int (many : Int), V.ref st])) st = some (.dK []) := by
      rw [upd_ne (fun z => by rw [z, upd_same] at nT; cases nT), upd_same]
    have nstH : H st = none := back D1 B1 nst
    generalize upd (upd H1 st (.dK [])) T (.tup [V.int (many : Int), V.ref st]) = H2 at D2 B2 hst2 ⊢
    have hso2 := B2 _ _ hso sod sl
    refine ⟨_, rfl, so, rfl, ⟨_, SqL.of hso2⟩, for_list (xs := ts.map V.str) (fun i σ H3 => ∃ (y5 y6 : Option V) (kvs : List (Key × V)) (ws : List (Str × List Int)), σ = [some (.ref d), some (.ref so), some (.int n), some (.int many), some (.ref st), y5, y6] ∧ Drw H3 d l c ∧ But d l H H3 ∧ H3 st = some (.dK kvs) ∧ StepL H H3 many (ts.take i) kvs ws)
      ⟨_, _, [], [], rfl, D2, B2, hst2, by simpa using StepL.nil⟩ (fun i σ H3 _ ⟨_, _, _, _, _, _, B3, _⟩ => SqL.of (B3 _ _ hso sod sl)) ?_ ?_⟩
    · rintro i x σ H3 hx ⟨y5, y6, kvs, ws, rfl, D3, B3, hst3, sL⟩
      obtain ⟨t, ht, rfl⟩ : ∃ t, ts[i]? = some t ∧ x = V.str t := by
        rw [List.getElem?_map] at hx
        obtain ⟨t, e1, e2⟩ := Option.map_eq_some_iff.mp hx
        exact ⟨t, e1, e2.symm⟩
      have hi := (List.getElem?_eq_some_iff.mp ht).1
      have tk : ts.take (i + 1) = ts.take i ++ [t] := by
        rw [List.take_add_one, ht]
        rfl
      have nin : (Sum.inr t : Key) ∉ kvs.map (·.1) := by
        rw [sL.keys]
        intro z
        obtain ⟨t2, h1, h2⟩ := List.mem_map.mp z
        cases h2
        obtain ⟨jj, hj, e⟩ := List.mem_take_iff_getElem.mp h1
        have e2 := (List.getElem?_eq_some_iff.mp ht).2
        exact (List.pairwise_iff_getElem.mp (List.nodup_iff_pairwise_ne.mp nd)) jj i (by omega) hi (by omega) (e.trans e2.symm)
      refine ⟨_, rfl, (many : Int), rfl, by omega, by omega, fun Dd nD => lc_it (D := Dd) walk_range (fun i2 H4 => Drw H4 d l c ∧ But d l H H4 ∧ H4 st = some (.dK kvs) ∧ (∀ a xs, H a = none → H3 a = some (.lst xs) → H4 a = some (.lst xs)) ∧
        ∃ ns : List Int, H4 Dd = some (.lst (ns.map V.int)) ∧ ns.length = i2 ∧ ∀ k ∈ ns, 0 ≤ k ∧ k < (many : Int)) ?_ (fun _ _ _ _ => trivial) ?_ ?_⟩
      · refine ⟨D3.new nD, B3.trans (But.new nD), ?_, fun a xs n e => ?_, [], upd_same, rfl, fun k hk => by cases hk⟩
        · rw [upd_ne (ne_of_none hst3 nD)]; exact hst3
        · rw [upd_ne (ne_of_none e nD)]; exact e
      · rintro i2 x H4 H5 hi2 ⟨D4, B4, hst4, kp, ns, hD4, hlen, hrng⟩ ⟨rfl, rfl⟩
        have hDn := back D3 B3 nD
        refine ⟨rfl, ?_⟩
        dsimp only [tYes]
        rw [if_pos rfl]
        refine ⟨_, rfl, _, rfl, d, l, c, (many : Int), rfl, D4, by omega, by omega, fun k H6 k0 k1 D6 B6 => ?_⟩
        have hi3 : i2 < many := hi2
        refine ⟨_, B6 _ _ hD4 (off hDn).1 (off hDn).2, by rw [List.length_map]; exact small1000 (by omega), D6.own D hDn, (B4.trans B6).own hDn, ?_, fun a xs n e => ?_, ns ++ [k], ?_, by rw [List.length_append, hlen]; rfl, fun y hy => ?_⟩
        · rw [upd_ne (ne_of hst4 hD4 (by intro z; cases z))]
          exact B6 _ _ hst4 (off nstH).1 (off nstH).2
        · have na : a ≠ Dd := ne_of_none e nD
          rw [upd_ne na]
          exact B6 _ _ (kp a xs n e) (off n).1 (off n).2
        · rw [upd_same, List.map_append]
          rfl
        · rcases List.mem_append.mp hy with z | z
          · exact hrng y z
          · rw [List.mem_singleton.mp z]
            exact ⟨k0, k1⟩
      · rintro H4 ⟨D4, B4, hst4, kp, ns, hD4, hlen, hrng⟩
        have hDn := back D3 B3 nD
        refine ⟨_, rfl, _, rfl, st, _, rfl, DPut.k (k := .inr t) hst4 ?_, ?_⟩
        · have z := congrArg List.length sL.keys
          rw [List.length_map, List.length_map, List.length_take] at z
          exact small1000 (by omega)
        · rw [putK_new _ (valV_out nin)]
          refine ⟨_, _, kvs ++ [(.inr t, .ref Dd)], ws ++ [(t, ns)], rfl, D4.own D nstH, B4.own nstH, upd_same, ?_⟩
          rw [tk]
          have lst_ne : ∀ a xs, H4 a = some (.lst xs) → (upd H4 st (.dK (kvs ++ [(.inr t, .ref Dd)]))) a = some (.lst xs) := fun a xs e => by
            rw [upd_ne (ne_of e hst4 (by intro z; cases z))]
            exact e
          exact StepL.snoc (sL.mono fun a xs n e => lst_ne a xs (kp a xs n e)) hDn (lst_ne _ _ hD4) hlen hrng
    · rintro σ H3 ⟨y5, y6, kvs, ws, rfl, D3, B3, hst3, sL⟩
      rw [List.length_map, List.take_length] at sL
      refine fun p np => ?_
      have npH := back D3 B3 np
      have hp4 : (upd H3 p (.dK [])) p = some (.dK []) := upd_same
      have hst4 : (upd H3 p (.dK [])) st = some (.dK kvs) := by rw [upd_ne (ne_of_none hst3 np)]; exact hst3
      have D4 := D3.new (o := .dK []) np
      have B4 : But d l H (upd H3 p (.dK [])) := B3.trans (But.new np)
      have sp : st ≠ p := ne_of_none hst3 np
      have sL4 := sL.mono (H2 := upd H3 p (.dK [])) fun a xs n e => by rw [upd_ne (ne_of_none e np)]; exact e
      generalize upd H3 p (.dK []) = H4 at hp4 hst4 D4 B4 sL4 ⊢
      refine ⟨_, rfl, _, rfl, (many : Int), rfl, by omega, by omega, fun Dd nD => lc_it (D := Dd) walk_range (fun i2 H5 => Drw H5 d l c ∧ But d l H H5 ∧ H5 p = some (.dK []) ∧ H5 st = some (.dK kvs) ∧ (∀ a xs, H a = none → H4 a = some (.lst xs) → H5 a = some (.lst xs)) ∧
        ∃ gs : List Int, H5 Dd = some (.lst (gs.map V.int)) ∧ gs.length ≤ i2 ∧ (∀ k ∈ gs, 0 ≤ k ∧ k < (i2 : Int)) ∧ gs.Pairwise (· < ·)) ?_ (fun _ _ _ _ => trivial) ?_ ?_⟩
      · refine ⟨D4.new nD, B4.trans (But.new nD), ?_, ?_, fun a xs n e => ?_, [], upd_same, Nat.le_refl 0, (fun k hk => by cases hk), List.Pairwise.nil⟩
        · rw [upd_ne (ne_of_none hp4 nD)]; exact hp4
        · rw [upd_ne (ne_of_none hst4 nD)]; exact hst4
        · rw [upd_ne (ne_of_none e nD)]; exact e
      · rintro i2 x H5 H6 hi2 ⟨D5, B5, hp5, hst5, kp, gs, hD5, hlen, hrng, hpw⟩ ⟨rfl, rfl⟩
        have hDn := back D4 B4 nD
        have hi3 : i2 < many := hi2
        refine ⟨rfl, _, rfl, d, l, c, 2, rfl, D5, by decide, by decide, fun k H7 k0 k1 D7 B7 => ⟨rfl, _, rfl, ?_⟩⟩
        have hp7 := B7 _ _ hp5 (off npH).1 (off npH).2
        have hst7 := B7 _ _ hst5 (off nstH).1 (off nstH).2
        have hD7 := B7 _ _ hD5 (off hDn).1 (off hDn).2
        have B57 := B5.trans B7
        have kp7 : ∀ a xs, H a = none → H4 a = some (.lst xs) → H7 a = some (.lst xs) := fun a xs n e => B7 _ _ (kp a xs n e) (off n).1 (off n).2
        cases decide (V.int k = V.int 0) with
        | false => exact iteF ⟨D7, B57, hp7, hst7, kp7, gs, hD7, by omega, fun y hy => by have := hrng y hy; omega, hpw⟩
        | true =>
          refine iteT ⟨_, rfl, _, hD7, by rw [List.length_map]; exact small1000 (by omega), D7.own D hDn, B57.own hDn, ?_, ?_, fun a xs n e => ?_, gs ++ [(0 : Int) + (i2 : Nat)], ?_, ?_, fun y hy => ?_, ?_⟩
          · rw [upd_ne (ne_of hp7 hD7 (by intro z; cases z))]; exact hp7
          · rw [upd_ne (ne_of hst7 hD7 (by intro z; cases z))]; exact hst7
          · rw [upd_ne (ne_of_none e nD)]
            exact kp7 a xs n e
          · rw [upd_same, List.map_append]
            rfl
          · rw [List.length_append, List.length_singleton]
            omega
          · rcases List.mem_append.mp hy with z | z
            · have := hrng y z
              omega
            · rw [List.mem_singleton.mp z]
              omega
          · refine List.pairwise_append.mpr ⟨hpw, List.pairwise_singleton _ _, fun y hy z hz => ?_⟩
            rw [List.mem_singleton.mp hz]
            have := hrng y hy
            omega
      · rintro H5 ⟨D5, B5, hp5, hst5, kp, gs, hD5, hlen, hrng, hpw⟩
        have hDn := back D4 B4 nD
        refine ⟨hp5, [(.inr "steps", .ref st), (.inr "good", .ref Dd)], rfl, by show 2 ≤ 15; decide, ?_⟩
        have lst_ne : ∀ a xs, H5 a = some (.lst xs) → ∀ o, (upd H5 p o) a = some (.lst xs) := fun a xs e o => by
          rw [upd_ne (ne_of e hp5 (by intro z; cases z))]
          exact e
        refine q p st Dd kvs ws gs _ many m1 hmany (D5.own D npH) (B5.own npH) npH upd_same nstH ?_ (sL4.mono fun a xs n e => lst_ne _ _ (kp a xs n e) _) hDn (lst_ne _ _ hD5 _) hrng hpw
        rw [upd_ne sp]
        exact hst5
end
end Kn
-- part So
set_option maxHeartbeats 4000000
/-! sorted of a tuple of ints. -/
namespace SoT
open PySem PySem.Spec PyProof.Rows
open AutoSeq1 (wpAny_loadPart')
section
variable {prog : Program} {w : World} {A : Around} {E : Value → Shared → Prop} {s : Shared} {t : Addr} {us : List Value}
theorem collect_tup {Q : List Value → Shared → Prop} (ht : s.heap.IsTuple t us.toArray) (hz : us.length ≤ sizeLine)
    (fin : ∀ g : Heap, s.heap.objs.size ≤ g.objs.size → (∀ b o, s.heap.get? b = some o → g.get? b = some o) → Q us { s with heap := g }) : wpAny (model prog w) A (collect (.ref t)) Q E s := by
  obtain ⟨⟨c, dd, dat, sl⟩, ho, hc, n, hd⟩ := ht
  obtain rfl : c = .type "tuple" := hc
  obtain rfl : dat = .seq us.toArray n := hd
  have lt : t < s.heap.objs.size := Heap.lt_size ho
  obtain ⟨hp, g, d, tk, os⟩ := s
  unfold collect
  refine wpAny_bind (wpAny_runValue (codeAny_builtin entry_proto_collect' ?_))
  rw [Around.under_plainId PySem.F.plain_proto_collect _]
  have kp : ∀ b o, hp.get? b = some o → (hp.push (seqObj "list" #[] 0)).get? b = some o := fun b o e => Heap.get?_push_of_some _ e
  have hL := Heap.get?_push_size hp (o := seqObj "list" #[] 0) rfl
  have ht2 := kp _ _ ho
  have ne : t ≠ hp.objs.size := Nat.ne_of_lt lt
  unfold Builtin.«proto.collect»
  wp_walk using wpAny_loadPart' ht2, wpAny_loadPart' hL
  refine And.intro (plainId_quiet PySem.F.plain_list_iadd _) ?_
  refine codeAny_builtin entry_list_iadd' ?_
  rw [Around.under_plainId (A := A) PySem.F.plain_list_iadd _]
  unfold Builtin.«list.__iadd__»
  unfold PySem.Builtin.List.listExtendWith
  wp_walk using wpAny_loadPart' ht2, wpAny_loadPart' hL
  have pl : (Obj.mapSeq (fun x => x ++ us.toArray) (seqObj "list" #[] 0)).data.pastItsLine = none := by
    refine pastItsLine_seq ?_
    simp
    omega
  rw [pl]
  have hU := get?_update_seq hL (fun x => x ++ us.toArray)
  wp_walk using wpAny_loadPart' hU
  have e0 : ((fun x => x ++ us.toArray) #[]).toList = us := by simp
  rw [e0]
  refine fin _ (by show hp.objs.size ≤ (Heap.update _ _ _).objs.size; rw [Heap.size_update, Heap.size_push]; exact Nat.le_succ _) fun b o e => ?_
  have lb : b < hp.objs.size := Heap.lt_size e
  exact (Heap.get?_update_ne _ _ _ _ (Nat.ne_of_lt lb)).trans (Heap.get?_push_of_some _ e)
/-- sorted(t), t a tuple: as of a list, but for the copy -/
theorem sorted_tup {ltv : Value → Value → Bool} {Q : Value → Shared → Prop} (O : SrtO.Swo ltv) (ht : s.heap.IsTuple t us.toArray) (hz : us.length ≤ sizeLine)
    (hS : 2 ≤ us.length → ∀ (g : Heap) (a : Addr), g.get? a = some (seqObj "list" us.toArray 0) → SrtO.SortableO prog w A.in1.in1 { s with heap := g } a us ltv)
    (fin : ∀ (out : List Value) (g : Heap) (l : Addr) (ep : Nat), SrtO.Srtd ltv out → SrtO.Stb ltv out us → s.heap.objs.size ≤ l → (∀ b o, s.heap.get? b = some o → g.get? b = some o) → g.get? l = some (seqObj "list" out.toArray ep) → Q (.ref l) { s with heap := g }) :
    wpAny (model prog w) A (call (.builtin "sorted") [.ref t]) Q E s := by
  apply Calls.call_function_entry (id := "sorted") kind_sorted plain_sorted entry_sorted (args_sorted1 (.ref t))
  unfold Builtin.«sorted»
  apply wpAny_bind (m := checkCount "sorted" 1 1 _)
  refine wpAny_pure ?_
  refine wpAny_bind (collect_tup ht hz fun g big kp => ?_)
  refine wpAny_bind (wpAny_newList ?_ hz)
  have hoL : (g.push (seqObj "list" us.toArray 0)).get? g.objs.size = some (seqObj "list" us.toArray 0) := Heap.get?_push_size _ rfl
  have old : ∀ b o, s.heap.get? b = some o → b < g.objs.size := fun b o e => Heap.lt_size (kp b o e)
  show wpAny _ _ _ _ _ { s with heap := g.push (seqObj "list" us.toArray 0) }
  apply wpAny_bind
  apply wpAny_holding
  refine wpAny_call_entry slot_list_sort ⟨_, hoL, rfl⟩ entry_list_sort ?_ (args_list_sort _)
  refine SrtO.list_sort_ord O hoL hz (fun h2 => hS h2 _ _ hoL) fun out h1 h2 => ⟨.none, rfl, ?_⟩
  obtain ⟨ep, he⟩ := sortedHeap_at (vs := us) (out := out.toArray) hoL
  refine wpAny_pure ⟨_, rfl, fin out _ g.objs.size ep h1 h2 big (fun b o e => ?_) he⟩
  rw [sortedHeap_old (Nat.ne_of_lt (old b o e)) (by rw [Heap.size_push]; exact Nat.lt_succ_of_lt (old b o e))]
  exact Heap.get?_push_of_some _ (kp b o e)
end
end SoT
namespace L2
open PySem PySem.Spec PyProof.Rows
/-- sorted of a list or a tuple of ints -/
def rSortA (K : PySem.W.Frag) : List V → Hp → VK → Prop := fun vs H Q => ∃ (a : Addr) (ns : List Int), vs = [V.ref a] ∧ (SqL K H a (ns.map V.int) ∨ SqT K H a (ns.map V.int)) ∧ ∀ (ms : List Int) (p : Addr), ms.Perm ns → ms.Pairwise (· ≤ ·) → H p = none → Q (.ref p) (upd H p (.lst (ms.map V.int)))
theorem cr_sortA {X : Cx} : CallR X (.builtin "sorted") (rSortA X.K) := by
  rintro pins s σ H vs us Q I r ⟨a, ns, rfl, hs | hs, q⟩
  · exact cr_sortedI pins s σ H _ us Q I r ⟨a, ns, rfl, hs, q⟩
  · obtain ⟨its, rv, ht, hz⟩ := I.tuple hs
    rw [Vals.ref1 r]
    have hi := rv.ints
    refine SoT.sorted_tup SrtO.swo_int ht (by rw [← rv.length]; exact hz) (fun h2 g a' _ => SrtO.ints_sortable hi h2) fun out g l ep h1 h2 big kp he => ?_
    obtain ⟨k1, k2, k3⟩ := SrtO.ints_out hi h1 h2
    rw [List.length_map] at hz
    refine ⟨.ref l, upd H l (.lst ((out.map SrtO.iv).map V.int)), I.laid (t' := s.toks) kp big ⟨?_, out, ep, vals_of_ints k1, he⟩, rfl, q _ l k2 k3 (I.hok.fresh big)⟩
    rw [List.length_map, k2.length_eq]
    exact hz
end L2
-- part Md
set_option maxHeartbeats 4000000
/-! min of a dict with text keys. -/
namespace L2
open PySem PySem.Spec PyProof.Rows
theorem best_le (bt : Nat → Nat → Bool) : ∀ k, argBest bt k ≤ k
  | 0 => Nat.le_refl _
  | k + 1 => by
    unfold argBest
    split
    · exact Nat.le_refl _
    · exact Nat.le_succ_of_le (best_le bt k)
/-- min(d): one of its keys (which one: not told) -/
def rMinD : List V → Hp → VK → Prop := fun xs H Q => ∃ (a : Addr) (kvs : List (Key × V)) (ss : List Str), xs = [.ref a] ∧ H a = some (.dK kvs) ∧ kvs.map (·.1) = ss.map Sum.inr ∧ ss ≠ [] ∧ ∀ m, m ∈ ss → Q (.str m) H
theorem call_minD {X : Cx} (hc : X.calm = true) : CallR X (.builtin "min") rMinD := by
  rintro pins s σ H xs us Q I r ⟨a, kvs, ss, rfl, ha, hk, hne, q⟩
  obtain ⟨u, rfl, rx⟩ := vals1 r
  cases rx
  obtain ⟨_, hsys, vs, rel, dof⟩ := dk_of I.hok ha
  obtain ⟨ep, dat⟩ := dof.dictAt
  have hl : vs.length = ss.length := by
    have e := congrArg List.length hk
    rw [List.length_map, List.length_map] at e
    rw [← e]
    exact (KV.length rel).symm
  have pos : 0 < vs.length := by
    rw [hl]
    exact List.length_pos_iff.mpr hne
  have key : ∀ (i : Nat) (v : Value), (∃ k x, vs[i]? = some (k, x) ∧ (mixKind X.prog X.w).is k v = true) → ∃ m t, ss[i]? = some m ∧ v = .str m t := by
    rintro i v ⟨k, x, hi, hv⟩
    obtain ⟨y, h1, h2⟩ := KV.at' rel hi
    have e1 : (kvs.map (·.1))[i]? = some k := by rw [List.getElem?_map, h1] <;> rfl
    rw [hk, List.getElem?_map] at e1
    obtain ⟨m, hm, e2⟩ := Option.map_eq_some_iff.mp e1
    subst e2
    have hv : keyIs (Sum.inr m) v = true := hv
    rcases keyIs_shape hv with ⟨_, _, z, _⟩ | ⟨m2, t, z, hvt⟩
    · cases z
    · cases z
      exact ⟨m, t, hm, hvt⟩
  have low : ∃ o, s.heap.get? a = some o := by
    obtain ⟨o, _, ho, _⟩ := dat
    exact ⟨o, ho⟩
  obtain ⟨o, ho⟩ := low
  have hlt : a < s.heap.objs.size := Heap.lt_size ho
  refine call_min_walk (wpAny_pyIter_dict (knd := mixKind X.prog X.w) hsys dat ?_)
  refine ⟨_, _, _, _, _, _, fun i j => decide (((ss[i]?).getD "").cps.toList < ((ss[j]?).getD "").cps.toList), rfl, Walks.dictKeys (knd := mixKind X.prog X.w) (A := X.A.in1) (I.ok.hd hc) s.heap.objs.size a (Nat.ne_of_lt hlt) vs ep,
    ⟨⟨_, Heap.get?_push_size _ rfl, rfl, rfl⟩, dat.keep fun b u e => Heap.get?_push_of_some _ e⟩, fun b hb => ?_, pos, ?_, fun v h' tk hP hkp => ?_⟩
  · show b < (s.heap.push _).objs.size
    rw [Heap.size_push]
    rcases List.mem_cons.mp hb with z | z
    · rw [z]; exact Nat.lt_succ_self _
    · rw [List.mem_singleton.mp z]; exact Nat.lt_succ_of_lt hlt
  · intro i j vi vj s2 Q2 E2 hi hj h
    obtain ⟨x, t, hx, rfl⟩ := key i vi hi
    obtain ⟨y, u, hy, rfl⟩ := key j vj hj
    have z : Q2 (.bool (decide (((ss[i]?).getD "").cps.toList < ((ss[j]?).getD "").cps.toList))) s2 := h
    rw [hx, hy] at z
    exact lt_str z
  · obtain ⟨m, t, hm, rfl⟩ := key _ _ hP
    refine ⟨.str m, H, I.kept (t' := tk) fun b u e => hkp b u ?_ (Heap.get?_push_of_some _ e), ⟨t, rfl⟩, q m (List.mem_of_getElem? hm)⟩
    intro hb
    have z := List.mem_singleton.mp hb
    rw [z] at e
    exact Nat.lt_irrefl _ (Heap.lt_size e)
end L2
-- part Pt
set_option maxHeartbeats 8000000
namespace Kn
open PySem PySem.Spec PyProof.Rows L2 Err
/-- what is no own instance stands -/
def SameD (H H' : Hp) : Prop := ∀ b o, H b = some o → (∀ C dx fs, o ≠ .ins C dx fs) → H' b = some o
theorem SameD.of {H H' : Hp} {p C dx : Addr} {fs : List (Str × V)} (hp : H p = some (.ins C dx fs)) (s : ∀ b o, H b = some o → b ≠ p → H' b = some o) : SameD H H' := fun b o e n => s b o e fun z => by
  rw [z, hp] at e
  exact n C dx fs (Option.some.inj e).symm
theorem Rd.data {H H' : Hp} {a : Addr} {u : HO} (h : Rd H a u) (n : ∀ C dx fs, u ≠ .ins C dx fs) (s : SameD H H') : Rd H' a u := by
  rcases h with e | ⟨o, e⟩
  · exact .inl (s _ _ e n)
  · exact .inr ⟨o, s _ _ e (fun _ _ _ z => by cases z)⟩
mutual
theorem Is.data {H H' : Hp} {v : V} {w : W} (s : SameD H H') : Is H v w → Is H' v w
  | .non => .non
  | .bl b => .bl b
  | .int i => .int i
  | .str x h ok => .str x h ok
  | .lst h e t => .lst h (s _ _ e (fun _ _ _ z => by cases z)) (t.data s)
  | .tup h e t => .tup h (Rd.data e (fun _ _ _ z => by cases z) s) (t.data s)
  | .dct h ⟨ks, e, q⟩ t => .dct h ⟨ks, Rd.data e (fun _ _ _ z => by cases z) s, q⟩ (t.data s)
theorem IsAll.data {H H' : Hp} {v : List V} {w : List W} (s : SameD H H') : IsAll H v w → IsAll H' v w
  | .nil => .nil
  | .cons h t => .cons (h.data s) (t.data s)
theorem IsKV.data {H H' : Hp} {v : List (Option Key × V)} {w : List (Option Key × W)} (s : SameD H H') : IsKV H v w → IsKV H' v w
  | .nil => .nil
  | .cons hk h t => .cons hk (h.data s) (t.data s)
end
def lineK (p : Option Key × W) : Option (Str × List Int) := match p.1 with
  | some (.inr t) => some (t, intsW p.2)
  | _ => none
def linesOf (kws : List (Option Key × W)) : List (Str × List Int) := kws.filterMap lineK
def linesW : W → List (Str × List Int)
  | .dct kws => linesOf kws
  | _ => []
def manyW : W → Nat
  | .dct kws => (mostW kws).toNat
  | _ => 0
theorem ints_in {lo hi : Int} : ∀ {ws : List W}, ws.all (withinW lo hi) = true → ∀ k ∈ ws.filterMap toI, lo ≤ k ∧ k ≤ hi
  | w :: ws, e, k, hk => by
    obtain ⟨e1, e2⟩ := Bool.and_eq_true_iff.mp (show (withinW lo hi w && _) = true from e)
    cases w with
    | int i =>
      rcases List.mem_cons.mp (show k ∈ i :: ws.filterMap toI from hk) with z | z
      · rw [z]
        obtain ⟨z1, z2⟩ := Bool.and_eq_true_iff.mp (show (decide (lo ≤ i) && decide (i ≤ hi)) = true from e1)
        exact ⟨of_decide_eq_true z1, of_decide_eq_true z2⟩
      · exact ints_in e2 k z
    | _ => cases (show false = true from e1)
theorem isNameK_str {k : Key} (h : isNameK (some k) = true) : ∃ t, k = .inr t := by
  cases k with
  | inl i => cases (show false = true from h)
  | inr t => exact ⟨t, rfl⟩
theorem lines_get {H : Hp} {n : Int} : ∀ {ks : List (Key × V)} {kws : List (Option Key × W)}, IsKV H (ks.map fun p => (some p.1, p.2)) kws → (kws.all fun p => isNameK p.1) = true → (kws.all fun p => isSeq p.2) = true → (kws.all fun p => decide (lenW p.2 = n) && statesW n p.2) = true →
    ks.map (·.1) = ((linesOf kws).map (·.1)).map Sum.inr ∧ ∀ t ∈ (linesOf kws).map (·.1), ∃ a ns, valV ks (.inr t) = some (.ref a) ∧ (linesOf kws).lookup t = some ns ∧ SqA H a (ns.map V.int) ∧ (ns.length : Int) = n ∧ ∀ k ∈ ns, 0 ≤ k ∧ k < n
  | [], _, .nil, _, _, _ => ⟨rfl, fun t ht => by cases ht⟩
  | (k, v) :: ks, _, .cons (w := w) (ws := kws) hk h r, e1, e2, e3 => by
    obtain ⟨a1, b1⟩ := Bool.and_eq_true_iff.mp (show (isNameK (some k) && _) = true from e1)
    obtain ⟨a2, b2⟩ := Bool.and_eq_true_iff.mp (show (isSeq w && _) = true from e2)
    obtain ⟨a3, b3⟩ := Bool.and_eq_true_iff.mp (show ((decide (lenW w = n) && statesW n w) && _) = true from e3)
    obtain ⟨a4, a5⟩ := Bool.and_eq_true_iff.mp a3
    obtain ⟨t, rfl⟩ := isNameK_str a1
    obtain ⟨i1, i2⟩ := lines_get (ks := ks) r b1 b2 b3
    have el : linesOf ((some (Sum.inr t), w) :: kws) = (t, intsW w) :: linesOf kws := rfl
    obtain ⟨a, xs, rfl, hsq, hz, hall⟩ := h.seq a2
    have a6 := (Bool.and_eq_true_iff.mp (show (isSeq w && _) = true from a5)).2
    have hx : xs = (intsW w).map V.int := ints_all hall a6
    subst hx
    have hl : ((intsW w).length : Int) = n := by
      have z := hall.len
      rw [List.length_map] at z
      have z2 : lenW w = n := of_decide_eq_true a4
      have z3 : lenW w = ((items w).length : Int) := rfl
      omega
    refine ⟨by rw [el, List.map_cons, List.map_cons, List.map_cons, ← i1], fun t2 ht2 => ?_⟩
    rw [el, look_cons]
    rw [valV_cons]
    by_cases q : t = t2
    · subst q
      refine ⟨a, intsW w, by rw [if_pos rfl], by rw [if_pos rfl], hsq, hl, fun k hk => ?_⟩
      have z := ints_in a6 k hk
      omega
    · rw [if_neg q, if_neg fun z => q (Sum.inr.inj z)]
      rw [el, List.map_cons] at ht2
      exact i2 t2 ((List.mem_cons.mp ht2).resolve_left fun z => q z.symm)
/-- a dict made over a walk -/
theorem dc_walk {J : It} {n : Nat} {G : Hp → Prop} {Y : Nat → Hp → V → Hp → Prop} (w : Walk J n G Y) {g : TG} {tt : TT} {tk tv : TE} {vs : List Nat} {σ : L2.St} {H1 : Hp} {D : Addr} {Qd : Hp → Prop} (Z : Nat → Hp → Prop) (z0 : Z 0 (upd H1 D (.dK []))) (zG : ∀ i H, i ≤ n → Z i H → G H)
    (turn : ∀ i x H H', i < n → Z i H → Y i H x H' → g x (wipe σ vs) H' fun σ2 H2 => wipe σ2 vs = wipe σ vs ∧ tt σ2 H2 fun b H3 => if b = true then tk σ2 H3 fun y H4 => tv σ2 H4 fun z H5 => ∃ kvs k, y = kV k ∧ H5 D = some (.dK kvs) ∧ kvs.length < sizeLine ∧ Z (i + 1) (upd H5 D (.dK (putK kvs k z))) else Z (i + 1) H3)
    (last : ∀ H, Z n H → Qd H) : ∃ W : Nat → Nat → Hp → Prop, (∃ m, W 0 m (upd H1 D (.dK []))) ∧ ∀ i m H, W i m H → (J.stop i H ∧ Qd H) ∨ (J.go i H ∧ ∃ Nx : Hp → Prop, (∀ H', Nx H' → ∃ m', m' < m ∧ W (i + 1) m' H') ∧
      ∀ x H', J.yld i H x H' → g x (wipe σ vs) H' fun σ2 H2 => wipe σ2 vs = wipe σ vs ∧ tt σ2 H2 fun b H3 => if b = true then tk σ2 H3 fun y H4 => tv σ2 H4 fun z H5 => ∃ kvs k, y = kV k ∧ H5 D = some (.dK kvs) ∧ kvs.length < sizeLine ∧ Nx (upd H5 D (.dK (putK kvs k z))) else Nx H3) := by
  refine ⟨fun i m H => m + i = n ∧ Z i H, ⟨n, Nat.add_zero _, z0⟩, fun i m H ⟨e, z⟩ => ?_⟩
  have gd := zG i H (by omega) z
  cases m with
  | zero =>
    obtain rfl : i = n := by omega
    exact .inl ⟨w.stops H gd, last H z⟩
  | succ m =>
    have lt : i < n := by omega
    exact .inr ⟨w.goes i H lt gd, Z (i + 1), fun H' z' => ⟨m, Nat.lt_succ_self _, by omega, z'⟩, fun x H' y => turn i x H H' lt z (w.yields i H x H' lt gd y)⟩
theorem LinT.snoc {H : Hp} {kvs : List (Key × V)} {st : List (Str × List Int)} {t : Str} {a : Addr} {ns : List Int} (h : LinT H kvs st) (r : Rd H a (.tup (ns.map V.int))) : LinT H (kvs ++ [(.inr t, .ref a)]) (st ++ [(t, ns)]) := by
  induction h with
  | nil => exact .cons r .nil
  | cons h _ ih => exact .cons h ih
theorem LinT.len {H : Hp} {kvs : List (Key × V)} {st : List (Str × List Int)} (h : LinT H kvs st) : kvs.length = st.length := by
  induction h with
  | nil => rfl
  | cons h _ ih => rw [List.length_cons, List.length_cons, ih]
theorem look_map (f : Str → List Int) : ∀ (ys : List Str) (t : Str), (ys.map fun y => (y, f y)).lookup t = if t ∈ ys then some (f t) else none
  | [], t => rfl
  | y :: ys, t => by
    rw [List.map_cons, look_cons, look_map f ys t]
    by_cases h : y = t
    · subst h
      rw [if_pos rfl, if_pos (List.mem_cons_self ..)]
    · rw [if_neg h]
      by_cases h2 : t ∈ ys
      · rw [if_pos h2, if_pos (List.mem_cons_of_mem _ h2)]
      · rw [if_neg h2, if_neg fun z => h2 ((List.mem_cons.mp z).resolve_left fun q => h q.symm)]
theorem look_none : ∀ {st : List (Str × List Int)} {t : Str}, t ∉ st.map (·.1) → st.lookup t = none
  | [], _, _ => rfl
  | (k, v) :: st, t, h => by
    rw [look_cons, if_neg fun z => h (by rw [z]; exact List.mem_cons_self ..)]
    exact look_none fun z => h (List.mem_cons_of_mem _ z)
theorem frt_keep {H H' : Hp} {g : V} {ug : W} (hg : Is H g ug) (s : SameD H H') (nt : ∀ a xs, g = .ref a → Rd H a (.tup xs) → FrT H a xs) : ∀ a xs, g = .ref a → Rd H' a (.tup xs) → FrT H' a xs := by
  intro a xs e r
  have no : ∀ o, H a = some o → (∀ C dx fs, o ≠ .ins C dx fs) → H' a = some o := fun o => s a o
  cases hg with
  | non => cases e
  | bl b => cases e
  | int i => cases e
  | str x _ _ => cases e
  | @lst b ys ws _ h _ =>
    cases e
    have z := no _ h (fun _ _ _ z => by cases z)
    rcases r with y | ⟨o, y⟩ <;> (rw [z] at y; cases y)
  | @tup b ys ws _ h _ =>
    cases e
    obtain ⟨o, h1, h2⟩ := nt _ _ rfl h
    have z := no _ h1 (fun _ _ _ z => by cases z)
    rcases r with y | ⟨o2, y⟩
    · rw [z] at y; cases y
    · rw [z] at y
      cases y
      exact ⟨o, z, h2⟩
  | @dct b kvs kws _ h _ =>
    cases e
    obtain ⟨ks, h, _⟩ := h
    rcases h with h | ⟨o, h⟩
    · have z := no _ h (fun _ _ _ z => by cases z)
      rcases r with y | ⟨o2, y⟩ <;> (rw [z] at y; cases y)
    · have z := no _ h (fun _ _ _ z => by cases z)
      rcases r with y | ⟨o2, y⟩ <;> (rw [z] at y; cases y)
def rTupA (K : PySem.W.Frag) : List V → Hp → VK → Prop := fun xs H Q => ∃ p ys, xs = [.ref p] ∧ ((SqL K H p ys ∧ ∀ l, H l = none → Q (.ref l) (upd H l (.tup ys))) ∨ (SqT K H p ys ∧ Q (.ref p) H))
abbrev NIn : List Str := ["self", "steps", "good", "kind"]
theorem scIn : FnScope NIn ["self", "steps", "good"] (defScope sInit) := ⟨rfl, rfl, rfl, by decide +kernel, rfl, by decide +kernel, by decide +kernel⟩
def Bp (p : Addr) (H H' : Hp) : Prop := ∀ b o, H b = some o → b ≠ p → H' b = some o
def spInit (C CB : Addr) : Sp := fun vs H Q E => ∃ p dx v g u ug, vs = [.ref p, v, g] ∧ H p = some (.ins C dx []) ∧ Is H v u ∧ NF H v ∧ Is H g ug ∧ (∀ a xs, g = .ref a → Rd H a (.tup xs) → FrT H a xs) ∧ (∀ a ks, v = .ref a → H a = some (.dK ks) → (ks.map (·.1)).Nodup) ∧
  (movesW u = false → ∀ d H', Bp p H H' → H' d = none → E (.ref CB) (some d) (upd H' d (.xd [("part", .str "steps")]))) ∧
  (movesW u = true → goodW (manyW u) ug = false → ∀ d H', Bp p H H' → H' d = none → E (.ref CB) (some d) (upd H' d (.xd [("part", .str "good")]))) ∧
  (movesW u = true → goodW (manyW u) ug = true → ∀ st gs H', Bp p H H' → PatAt C H' p (manyW u) st gs → PatOk (manyW u) st → (∀ t, st.lookup t = (linesW u).lookup t) → (st.map (·.1)).Perm ((linesW u).map (·.1)) → sortedS (st.map (·.1)) = true → gs.Perm (intsW ug) → gs.Pairwise (· ≤ ·) → Q .non H')
section
variable {P : Program} {w : World} {K : PySem.W.Frag} {mg : Str → Option Value} {base : Heap}
theorem ok_init {f C CB f1 f2 : Addr} {fd fd1 fd2 : FuncData} (F : Fun K "__init__" "Pattern.__init__" sInit f fd) (T : PTxt K C) (G1 : FnOk P w K mg base CX0 4 f1 fd1 ["value"] spMoves) (k1 : PySem.W.keepIn K (.ref f1) = true) (b1 : Binds K fd1 ["value"] []) (g1 : mg "are_moves" = some (.ref f1))
    (G2 : FnOk P w K mg base CX0 4 f2 fd2 ["value", "many"] spGood) (k2 : PySem.W.keepIn K (.ref f2) = true) (b2 : Binds K fd2 ["value", "many"] []) (g2 : mg "are_good" = some (.ref f2))
    (TB : One P K CB "part") (ms : mg "super" = none) (gB : mg "BadPattern" = some (.ref CB)) (kB : PySem.W.keepIn K (.ref CB) = true) (m1 : mg "sorted" = none) (m2 : mg "tuple" = none) (m3 : mg "len" = none) (m4 : mg "min" = none) :
    FnOk P w K mg base (L2.CX P w) 5 f fd ["self", "steps", "good"] (spInit C CB) := by
  have S := scIn
  refine F.okX S (fun vs H Q E h => ?_) (fun cdv A outer s H vs Q E hr h => ?_)
  · obtain ⟨p, dx, v, g, u, ug, rfl, _⟩ := h
    rfl
  · obtain ⟨p, dx, v, g, u, ug, rfl, hp, hv, nf, hg, nt, nd, hE1, hE2, hQ⟩ := h
    have hu := hu_of hr
    have hr1 := hr.mono (show 1 ≤ 4 by decide)
    have tk : Takes (cxOf (L2.CX P w) P w K mg base NIn "Pattern.__init__" (defScope sInit) f cdv A outer s H E) (fun cls d _ H => E cls d H) := takes_of rfl rfl rfl rfl
    refine ⟨_, pss_cons (ps_if (pt_not (pt_val (pe_call G1 hr (by rfl) g1 k1 b1 .nil pass0 (pa_cons (pv 1) pa_nil)))) (pss_one (ps_raise rfl tk (pmk_err TB ms hr1 (by rfl) gB kB pe_str))) pss_nil)
      (pss_cons (ps_fld (pv 0) (pe_dc (own := [("kind", 3)]) (g := gName 3) rfl S.nd (pi_list (pe_callB (call_sortedD rfl) (by rfl) m1 (by decide +kernel) (pa_cons (pv 1) pa_nil))) (blkOk_by (N := NIn) (sc := defScope sInit) (by decide +kernel)) (fun _ _ _ _ _ => pg_name (i := 3) S.nd rfl (.inl rfl)) (fun _ _ _ _ _ => pts_nil)
          (fun _ _ _ _ _ => pv 3) (fun _ _ _ _ _ => pe_callTy (show CallR _ (.type "tuple") (rTupA K) from call_tuple_of) (by rfl) m2 (by decide +kernel) (pa_cons (pe_dget hu (pv 1) (pv 3) (fun _ _ => rfl)) pa_nil))) rfl)
      (pss_cons (ps_fld (pv 0) (pe_callB call_len_seq (by rfl) m3 PySem.boot_len (pa_cons (pe_dget hu (pe_fld (pv 0) rfl) (pe_callB (call_minD rfl) (by rfl) m4 (by decide +kernel) (pa_cons (pe_fld (pv 0) rfl) pa_nil)) (fun _ _ => rfl)) pa_nil)) rfl)
      (pss_cons (ps_if (pt_not (pt_val (pe_call G2 hr (by rfl) g2 k2 b2 .nil pass0 (pa_cons (pv 2) (pa_cons (pe_fld (pv 0) rfl) pa_nil))))) (pss_one (ps_raise rfl tk (pmk_err TB ms hr1 (by rfl) gB kB pe_str))) pss_nil)
      (pss_one (ps_fld (pv 0) (pe_callTy call_tuple_of (by rfl) m2 (by decide +kernel) (pa_cons (pe_callB cr_sortA (by rfl) m1 (by decide +kernel) (pa_cons (pv 2) pa_nil)) pa_nil)) rfl))))), ?_⟩
    have bp1 : ∀ {H1 : Hp}, Same H H1 → Bp p H H1 := fun s b o e _ => s b o e
    refine ⟨_, rfl, v, u, rfl, hv, nf, fun H1 s1 => ⟨_, rfl, ?_⟩⟩
    cases e : movesW u with
    | false => exact iteT fun d nd => hE1 e d H1 (bp1 s1) nd
    | true =>
      refine iteF ?_
      cases hv with
      | non => cases (show false = true from e)
      | bl b => cases (show false = true from e)
      | int i => cases (show false = true from e)
      | str x _ _ => cases (show false = true from e)
      | lst _ _ _ => cases (show false = true from e)
      | tup _ _ _ => cases (show false = true from e)
      | @dct a kvs kws hz hd hkv =>
        obtain ⟨ks, hd, rfl⟩ := hd
        have hd : H a = some (.dK ks) := by
          rcases hd with hd | ⟨o, hd⟩
          · exact hd
          · exact absurd hd (nf a o _ rfl)
        obtain ⟨d1, d2⟩ := Bool.and_eq_true_iff.mp (show (isDctN 1 3 (.dct kws) && _) = true from e)
        obtain ⟨d3, d4⟩ := Bool.and_eq_true_iff.mp d2
        obtain ⟨d5, d6⟩ := Bool.and_eq_true_iff.mp d4
        obtain ⟨d7, d8⟩ := Bool.and_eq_true_iff.mp d6
        obtain ⟨d9, d10⟩ := Bool.and_eq_true_iff.mp (show (decide ((1 : Int) ≤ (kws.length : Int)) && (decide ((kws.length : Int) ≤ 3) && _)) = true from d1)
        obtain ⟨d11, d12⟩ := Bool.and_eq_true_iff.mp d10
        have c1 := of_decide_eq_true d9
        have c2 := of_decide_eq_true d11
        have c3 := of_decide_eq_true d5
        have c4 := of_decide_eq_true d7
        obtain ⟨g1, g2⟩ := lines_get hkv d12 d3 d8
        have hmany : ((manyW (.dct kws) : Nat) : Int) = mostW kws := by
          show (((mostW kws).toNat : Nat) : Int) = _
          omega
        have lk : ks.length = kws.length := by
          have z := hkv.len
          rw [List.length_map] at z
          exact z
        have ndk := nd a ks rfl hd
        rw [g1] at ndk
        have lss : ((linesOf kws).map (·.1)).length = kws.length := by
          have z := congrArg List.length g1
          rw [List.length_map, List.length_map] at z
          omega
        refine ⟨_, rfl, a, ks, (linesOf kws).map (·.1), rfl, .inl (s1 _ _ hd), g1, by omega, fun ys lp perm srt nlp => ?_⟩
        have s2 : Same H (upd H1 lp (.lst (ys.map V.str))) := s1.trans (same_new nlp)
        have hlp : (upd H1 lp (.lst (ys.map V.str))) lp = some (.lst (ys.map V.str)) := upd_same
        generalize upd H1 lp (.lst (ys.map V.str)) = H2 at s2 hlp ⊢
        have ndy : ys.Nodup := perm.symm.nodup (by
          refine List.Pairwise.of_map Sum.inr (fun x y h z => h (by rw [z])) ndk)
        let lineOf : Str → List Int := fun t => ((linesOf kws).lookup t).getD []
        refine ⟨lp, rfl, ⟨_, SqL.of hlp⟩, fun D nD => dc_walk walk_list (fun i H' => Same H2 H' ∧ ∃ kvs, H' D = some (.dK kvs) ∧ LinT H' kvs ((ys.take i).map fun t => (t, lineOf t))) ⟨same_new nD, [], upd_same, .nil⟩ (fun i H' _ z => SqL.of (z.1 _ _ hlp)) ?_ ?_⟩
        · rintro i x H3 H4 hi ⟨s3, kvs, hD, hL⟩ ⟨rfl, hx⟩
          rw [List.length_map] at hi
          have hy : ys[i]? = some ys[i] := List.getElem?_eq_getElem hi
          obtain rfl : V.str ys[i] = x := by
            rw [List.getElem?_map, hy] at hx
            exact Option.some.inj hx
          generalize ys[i] = t at hy hx ⊢
          obtain ⟨b, ns, hb, hl, hsq, hlen, hin⟩ := g2 t (perm.mem_iff.mp (List.mem_of_getElem? hy))
          have hl2 : lineOf t = ns := by show ((linesOf kws).lookup t).getD [] = ns; rw [hl]; rfl
          have tks : (ys.take (i + 1)).map (fun t => (t, lineOf t)) = (ys.take i).map (fun t => (t, lineOf t)) ++ [(t, ns)] := by
            rw [List.take_add_one, hy, List.map_append, ← hl2]
            rfl
          have kl : kvs.length < sizeLine := by
            have z := hL.len
            rw [List.length_map, List.length_take] at z
            have z2 := perm.length_eq
            exact small1000 (by omega)
          have nin : valV kvs (.inr t) = none := by
            refine valV_out ?_
            have stl : ((ys.take i).map fun t => (t, lineOf t)).map (·.1) = ys.take i := by rw [List.map_map]; exact List.map_id _
            rw [hL.keys, stl]
            intro z
            obtain ⟨t2, h1, h2⟩ := List.mem_map.mp z
            have h3 : t2 = t := Sum.inr.inj h2
            subst h3
            obtain ⟨j, hj, e1⟩ := List.mem_take_iff_getElem.mp h1
            have e2 := (List.getElem?_eq_some_iff.mp hy).2
            exact (List.pairwise_iff_getElem.mp (List.nodup_iff_pairwise_ne.mp ndy)) j i (by omega) hi (by omega) (e1.trans e2.symm)
          have go : ∀ (b2 : Addr) (H5 : Hp), Same H4 H5 → Rd H5 b2 (.tup (ns.map V.int)) → Same H2 (upd H5 D (.dK (putK kvs (.inr t) (.ref b2)))) ∧ ∃ kvs2, (upd H5 D (.dK (putK kvs (.inr t) (.ref b2)))) D = some (.dK kvs2) ∧ LinT (upd H5 D (.dK (putK kvs (.inr t) (.ref b2)))) kvs2 ((ys.take (i + 1)).map fun t => (t, lineOf t)) := by
            intro b2 H5 s5 r5
            have hD5 := s5 _ _ hD
            refine ⟨same_own nD (s3.trans s5), _, upd_same, ?_⟩
            rw [tks, putK_new _ nin]
            have rdk : ∀ {c : Addr} {xs : List V}, Rd H5 c (.tup xs) → Rd (upd H5 D (.dK (kvs ++ [(.inr t, .ref b2)]))) c (.tup xs) := fun {c xs} r => by
              have ne : c ≠ D := fun z => by
                rw [z] at r
                rcases r with y | ⟨o, y⟩ <;> (rw [hD5] at y; cases y)
              rcases r with y | ⟨o, y⟩
              · exact .inl (by rw [upd_ne ne]; exact y)
              · exact .inr ⟨o, by rw [upd_ne ne]; exact y⟩
            have lin : ∀ {k2 : List (Key × V)} {st2 : List (Str × List Int)}, LinT H5 k2 st2 → LinT (upd H5 D (.dK (kvs ++ [(.inr t, .ref b2)]))) k2 st2 := fun {k2 st2} h => by
              induction h with
              | nil => exact .nil
              | cons h _ ih => exact .cons (rdk h) ih
            exact (lin (hL.same s5)).snoc (rdk r5)
          refine ⟨rfl, ?_⟩
          dsimp only [tYes]
          rw [if_pos rfl]
          refine ⟨_, rfl, _, rfl, _, rfl, a, _, rfl, hb ▸ DGet.k (k := Sum.inr t) ((s2.trans s3) _ _ hd), b, ns.map V.int, rfl, ?_⟩
          rcases hsq with hs | hs
          · refine .inl ⟨SqL.of ((s2.trans s3) _ _ hs), fun l nl => ?_⟩
            exact ⟨kvs, .inr t, rfl, (same_new nl) _ _ hD, kl, go l _ (same_new nl) (.inl upd_same)⟩
          · refine .inr ⟨.inl (Rd.same hs (s2.trans s3)), ?_⟩
            exact ⟨kvs, .inr t, rfl, hD, kl, go b _ (Same.refl _) (Rd.same hs (s2.trans s3))⟩
        · rintro H3 ⟨s3, kvs, hD, hL⟩
          rw [List.length_map, List.take_length] at hL
          have s4 := s2.trans s3
          have hn : ((manyW (.dct kws) : Nat) : Int) = mostW kws := hmany
          have fl1 : putF "_steps" (V.ref D) ([] : List (Str × V)) = ([(("_steps" : Str), V.ref D)] : List (Str × V)) := by kernel_rfl
          refine ⟨_, rfl, p, C, dx, _, rfl, s4 _ _ hp, T.cl, T.nS, by show 0 < 1000; decide, ?_⟩
          rw [fl1]
          have pD : p ≠ D := ne_of (s4 _ _ hp) hD (by intro z; cases z)
          have bp4 : Bp p H (upd H3 p (.ins C dx [("_steps", V.ref D)])) := fun b o e ne => by rw [upd_ne ne]; exact s4 _ _ e
          have sd4 : SameD H3 (upd H3 p (.ins C dx [("_steps", V.ref D)])) := SameD.of (s4 _ _ hp) fun b o e ne => by rw [upd_ne ne]; exact e
          have hp4 : (upd H3 p (.ins C dx [("_steps", V.ref D)])) p = some (.ins C dx [("_steps", V.ref D)]) := upd_same
          have hD4 : (upd H3 p (.ins C dx [("_steps", V.ref D)])) D = some (.dK kvs) := by rw [upd_ne pD.symm]; exact hD
          have linD : ∀ {Ha Hb : Hp}, SameD Ha Hb → ∀ {k2 : List (Key × V)} {st2 : List (Str × List Int)}, LinT Ha k2 st2 → LinT Hb k2 st2 := fun {Ha Hb} sd {k2 st2} h => by
            induction h with
            | nil => exact .nil
            | cons h _ ih => exact .cons (Rd.data h (fun _ _ _ z => by cases z) sd) ih
          have hL4 := linD sd4 hL
          have sdH : SameD H (upd H3 p (.ins C dx [("_steps", V.ref D)])) := SameD.of hp bp4
          generalize upd H3 p (.ins C dx [("_steps", V.ref D)]) = H4 at bp4 sd4 hp4 hD4 hL4 sdH ⊢
          -- the number of states
          have lk1 : ([(("_steps" : Str), V.ref D)] : List (Str × V)).lookup ("_steps" : Str) = some (.ref D) := by kernel_rfl
          have stl : (ys.map fun t => (t, lineOf t)).map (·.1) = ys := by rw [List.map_map]; exact List.map_id ys
          have kk : kvs.map (·.1) = ys.map Sum.inr := by rw [hL.keys, stl]
          have ylen := perm.length_eq
          have yne : ys ≠ [] := fun z => by rw [z] at ylen; rw [lss] at ylen; change 0 = kws.length at ylen; omega
          refine ⟨_, rfl, p, C, dx, _, _, rfl, hp4, T.cl, T.nS, lk1, _, rfl, p, C, dx, _, _, rfl, hp4, T.cl, T.nS, lk1, D, kvs, ys, rfl, hD4, kk, yne, fun m hm => ?_⟩
          obtain ⟨_, ns, _, hl, _, hlen, hin⟩ := g2 m (perm.mem_iff.mp hm)
          have hst : ∀ t, (ys.map fun t => (t, lineOf t)).lookup t = (linesOf kws).lookup t := fun t => by
            rw [look_map]
            by_cases h : t ∈ ys
            · rw [if_pos h]
              obtain ⟨_, ns2, _, h2, _⟩ := g2 t (perm.mem_iff.mp h)
              show some (((linesOf kws).lookup t).getD []) = _
              rw [h2]
              rfl
            · rw [if_neg h, look_none fun z => h (perm.mem_iff.mpr z)]
          obtain ⟨b, hb, hrb⟩ := hL4.get ((hst m).trans hl)
          refine ⟨D, _, rfl, hb ▸ DGet.k (k := Sum.inr m) hD4, b, _, rfl, .inr (.inl hrb), ?_⟩
          rw [List.length_map]
          have fl2 : ∀ x : V, putF "_states" x ([(("_steps" : Str), V.ref D)] : List (Str × V)) = ([(("_steps" : Str), V.ref D), (("_states" : Str), x)] : List (Str × V)) := fun x => by kernel_rfl
          have en : (ns.length : Int) = ((manyW (.dct kws) : Nat) : Int) := by rw [hn]; exact hlen
          rw [en]
          refine ⟨_, rfl, p, C, dx, _, rfl, hp4, T.cl, T.nT, by show 1 < 1000; decide, ?_⟩
          rw [fl2]
          generalize hN : manyW (.dct kws) = n at hQ hE2 hn en ⊢
          have pD4 : D ≠ p := pD.symm
          have bp5 : Bp p H (upd H4 p (.ins C dx [(("_steps" : Str), V.ref D), (("_states" : Str), V.int (n : Int))])) := fun b o e ne => by rw [upd_ne ne]; exact bp4 b o e ne
          have sd5 : SameD H4 (upd H4 p (.ins C dx [(("_steps" : Str), V.ref D), (("_states" : Str), V.int (n : Int))])) := SameD.of hp4 fun b o e ne => by rw [upd_ne ne]; exact e
          have hp5 : (upd H4 p (.ins C dx [(("_steps" : Str), V.ref D), (("_states" : Str), V.int (n : Int))])) p = some (.ins C dx [(("_steps" : Str), V.ref D), (("_states" : Str), V.int (n : Int))]) := upd_same
          have hD5 : (upd H4 p (.ins C dx [(("_steps" : Str), V.ref D), (("_states" : Str), V.int (n : Int))])) D = some (.dK kvs) := by rw [upd_ne pD4]; exact hD4
          have hL5 := linD sd5 hL4
          have sdH5 : SameD H (upd H4 p (.ins C dx [(("_steps" : Str), V.ref D), (("_states" : Str), V.int (n : Int))])) := SameD.of hp bp5
          generalize upd H4 p (.ins C dx [(("_steps" : Str), V.ref D), (("_states" : Str), V.int (n : Int))]) = H5 at bp5 sd5 hp5 hD5 hL5 sdH5 ⊢
          have lk2 : ([(("_steps" : Str), V.ref D), (("_states" : Str), V.int (n : Int))] : List (Str × V)).lookup ("_states" : Str) = some (.int (n : Int)) := by kernel_rfl
          -- are the good ones good
          refine ⟨_, rfl, _, rfl, p, C, dx, _, _, rfl, hp5, T.cl, T.nT, lk2, g, ug, (n : Int), rfl, hg.data sdH5, frt_keep hg sdH5 nt, by omega, by omega, fun H6 s6 => ⟨_, rfl, ?_⟩⟩
          cases e7 : goodW (n : Int) ug with
          | false => exact iteT fun d nd2 => hE2 e e7 d H6 (fun b o z ne => s6 _ _ (bp5 b o z ne)) nd2
          | true =>
            refine iteF ?_
            obtain ⟨f1, f2⟩ := Bool.and_eq_true_iff.mp (show (statesW (n : Int) ug && _) = true from e7)
            obtain ⟨f3, f4⟩ := Bool.and_eq_true_iff.mp (show (isSeq ug && _) = true from f1)
            obtain ⟨b6, xs6, rfl, hsq6, _, hall6⟩ := ((hg.data sdH5).same s6).seq f3
            have hx6 : xs6 = (intsW ug).map V.int := ints_all hall6 f4
            subst hx6
            have sq6 : SqL K H6 b6 ((intsW ug).map V.int) ∨ SqT K H6 b6 ((intsW ug).map V.int) := by
              rcases hsq6 with z | z
              · exact .inl (SqL.of z)
              · exact .inr (.inl z)
            refine ⟨_, rfl, b6, intsW ug, rfl, sq6, fun gs lg perm2 pw nlg => ⟨lg, _, rfl, .inl ⟨SqL.of upd_same, fun tg ntg => ?_⟩⟩⟩
            have s8 : Same H6 (upd (upd H6 lg (.lst (gs.map V.int))) tg (.tup (gs.map V.int))) := (same_new nlg).trans (same_new ntg)
            have htg : (upd (upd H6 lg (.lst (gs.map V.int))) tg (.tup (gs.map V.int))) tg = some (.tup (gs.map V.int)) := upd_same
            have fl3 : ∀ x : V, putF "_good" x ([(("_steps" : Str), V.ref D), (("_states" : Str), V.int (n : Int))] : List (Str × V)) = ([(("_steps" : Str), V.ref D), (("_states" : Str), V.int (n : Int)), (("_good" : Str), x)] : List (Str × V)) := fun x => by kernel_rfl
            generalize upd (upd H6 lg (.lst (gs.map V.int))) tg (.tup (gs.map V.int)) = H8 at s8 htg ⊢
            have hp8 := s8 _ _ (s6 _ _ hp5)
            refine ⟨_, rfl, p, C, dx, _, rfl, hp8, T.cl, T.nG, by show 2 < 1000; decide, ?_⟩
            rw [fl3]
            have bp9 : Bp p H (upd H8 p (.ins C dx (pflds D n tg))) := fun b o z ne => by rw [upd_ne ne]; exact s8 _ _ (s6 _ _ (bp5 b o z ne))
            have sd9 : SameD H8 (upd H8 p (.ins C dx (pflds D n tg))) := SameD.of hp8 fun b o z ne => by rw [upd_ne ne]; exact z
            have hL9 := linD sd9 ((hL5.same s6).same s8)
            have hD9 : (upd H8 p (.ins C dx (pflds D n tg))) D = some (.dK kvs) := sd9 _ _ (s8 _ _ (s6 _ _ hD5)) (fun _ _ _ z => by cases z)
            have ht9 : (upd H8 p (.ins C dx (pflds D n tg))) tg = some (.tup (gs.map V.int)) := sd9 _ _ htg (fun _ _ _ z => by cases z)
            refine hQ e e7 (ys.map fun t => (t, lineOf t)) gs _ bp9 ⟨dx, D, tg, kvs, upd_same, hD9, hL9, .inl ht9⟩ ⟨by omega, by omega, ?_, ?_, ?_, ?_⟩ hst ?_ ?_ perm2 pw
            · intro z
              exact yne (List.map_eq_nil_iff.mp z)
            · rw [List.length_map]
              omega
            · rw [stl]
              exact ndy
            · intro t ns2 h2
              rw [hst t] at h2
              have h3 : t ∈ (linesOf kws).map (·.1) := by
                by_cases h : t ∈ (linesOf kws).map (·.1)
                · exact h
                · rw [look_none h] at h2
                  cases h2
              obtain ⟨_, ns3, _, h4, _, h5, h6⟩ := g2 t h3
              rw [h4] at h2
              cases h2
              exact ⟨by omega, fun k hk => by have := h6 k hk; omega⟩
            · rw [stl]
              exact perm
            · rw [stl]
              exact srt
end
end Kn
-- part Td
set_option maxHeartbeats 4000000
/-! tuple of a dict: its keys. -/
namespace TupD
open PySem PySem.Spec PyProof.Rows
open AutoSeq1 (wpAny_loadPart')
section
variable {prog : Program} {w : World} {A : Around} {E : Value → Shared → Prop} {s : Shared} {T : String} {r d : Addr} {n : Nat} {P : Nat → Value → Prop} {OK : Heap → Prop}
theorem new_src {R : Value → Shared → Prop} (src : PySem.W.KdlSrc prog w T r d n P OK) (calm : A.handled = none) (ok : OK s.heap) (hn : n ≤ sizeLine)
    (fin : ∀ (g : Heap) (tk : Nat) (acc : Array Value), (∀ b o, s.heap.get? b = some o → g.get? b = some o) → ItemsOf P acc n → R (.ref g.objs.size) { s with heap := g.push { cls := .type "tuple", data := .seq acc }, toks := tk }) :
    codeAny (model prog w) A (.call (.builtin "tuple.__new__") ⟨[.type "tuple", .ref r], []⟩) (wants R E) s := by
  apply codeAny_of_tree
  change wpAny _ A.in1 (checkBuiltinCall "tuple.__new__" ⟨[.type "tuple", .ref r], []⟩ >>= fun _ => again (.builtin "tuple.__new__" ⟨[.type "tuple", .ref r], []⟩)) _ _ s
  apply wpAny_bind
  refine wpAny_of_eq (F.newCall_tuple_1 _) (wpAny_pure ⟨plainId_quiet F.plain_tuple_new _, ?_⟩)
  refine codeAny_builtin F.entry_tuple_new ?_
  rw [Around.under_plainId (A := A) F.plain_tuple_new _]
  have a1 := sub_tuple_self
  have a2 := init_tuple_lookup
  have a3 := madeHere_tuple
  have a4 := src.type s ok
  have a5 : (Value.type T == Value.type "tuple") = false := src.notTuple
  have a6 : A.in1.handled = none := by simpa using calm
  have cl : ∀ (Q' : List Value → Shared → Prop) (E' : Value → Shared → Prop), (∀ (h' : Heap) (tk : Nat) (acc : Array Value), (∀ b o, s.heap.get? b = some o → h'.get? b = some o) → ItemsOf P acc n → Q' acc.toList { s with heap := h', toks := tk }) → wpAny (model prog w) A.in1 (collect (.ref r)) Q' E' s := fun Q' E' h => PySem.W.kdu_collect src a6 ok hn h
  wp_walk using wpAny_typeOf a4, cl
  rintro g tk acc kp it
  apply wpAny_bind
  refine wpAny_pure ?_
  change wpAny _ _ (Builtin.Tuple.tupleExact acc.toList.toArray >>= fun v => ret v) _ _ _
  have e : acc.toList.toArray = acc := by simp
  rw [e]
  unfold Builtin.Tuple.tupleExact
  apply wpAny_bind
  refine wpAny_newObj_type ?_ (by show acc.size ≤ sizeLine; rw [it.1]; exact hn)
  exact wpAny_pure (fin g tk acc kp it)
theorem call_src {Q : Value → Shared → Prop} (src : PySem.W.KdlSrc prog w T r d n P OK) (calm : A.handled = none) (ok : OK s.heap) (hn : n ≤ sizeLine)
    (fin : ∀ (g : Heap) (tk : Nat) (acc : Array Value), (∀ b o, s.heap.get? b = some o → g.get? b = some o) → ItemsOf P acc n → Q (.ref g.objs.size) { s with heap := g.push { cls := .type "tuple", data := .seq acc }, toks := tk }) :
    wpAny (model prog w) A (call (.type "tuple") [.ref r]) Q E s := by
  refine callType_codes (Q₁ := fun x s₁ => s₁.TypeIs x "tuple" ∧ Q x s₁) F.called_tuple (F.typeCall_tuple_1 _) F.entry_object_init (new_src src (by simpa using calm) ok hn fun g tk acc kp it => ⟨⟨_, Heap.get?_push_size _ rfl, rfl⟩, fin g tk acc kp it⟩) ?_
  intro x s₁ h
  exact ⟨h.1, F.args_object_init_2 x _, object_init_meets F.called_tuple.init.lookup F.called_tuple.made (by decide) prog w A.in1 _ s₁ ⟨h.1, rfl, h.2⟩⟩
end
end TupD
namespace L2
open PySem PySem.Spec PyProof.Rows
/-- tuple(d): the keys -/
def rTupD : List V → Hp → VK → Prop := fun xs H Q => ∃ a kvs, xs = [.ref a] ∧ H a = some (.dK kvs) ∧ ∀ t, H t = none → Q (.ref t) (upd H t (.tup (kvs.map fun kv => kV kv.1)))
theorem call_tuple_dK {X : Cx} (hc : X.calm = true) : CallR X (.type "tuple") rTupD := by
  rintro pins s σ H xs us Q I r ⟨a, kvs, rfl, ha, q⟩
  obtain ⟨u, rfl, rx⟩ := vals1 r
  cases rx
  obtain ⟨z, lo, vs, rk, dof⟩ := (show ObjOk X.prog X.w H s.heap a (.dK kvs) from I.hok a _ ha)
  obtain ⟨ep, dat⟩ := dof.dictAt
  have hl : kvs.length = vs.length := Paired.length rk
  refine TupD.call_src (PySem.W.kdl_dict (knd := mixKind X.prog X.w) (ep := ep) lo) (I.ok.hd hc) dat (by rw [← hl]; exact z) fun g tk acc kp it => ?_
  have I1 : Inv X pins σ H { s with heap := g, toks := tk } := I.kept kp
  have al : acc.toList.length = vs.length := by rw [Array.length_toList, it.1]
  have rel : Vals (kvs.map fun kv => kV kv.1) acc.toList := by
    refine vals_of_at (by rw [List.length_map, al, hl]) fun j x v h1 h2 => ?_
    obtain ⟨k, y, e1, e2⟩ := it.2 j v (by rw [← Array.getElem?_toList]; exact h2)
    have e3 : (vs.map (·.1))[j]? = some k := by rw [List.getElem?_map, e1]; rfl
    rw [← KV.keys rk] at e3
    have e4 : ((kvs.map (·.1)).map kV)[j]? = some (kV k) := by rw [List.getElem?_map, e3]; rfl
    rw [List.map_map] at e4
    have e5 : some x = some (kV k) := h1.symm.trans e4
    cases e5
    exact keyIs_rel e2
  have new : ObjOk X.prog X.w (upd H g.objs.size (.tup (kvs.map fun kv => kV kv.1))) (g.push { cls := .type "tuple", data := .seq acc }) g.objs.size (.tup (kvs.map fun kv => kV kv.1)) := by
    refine ⟨by rw [List.length_map]; exact z, acc.toList, rel, ?_⟩
    rw [Array.toArray_toList]
    exact IsTup.new _ _
  exact ⟨.ref g.objs.size, _, I1.laid (t' := tk) (fun b o e => Heap.get?_push_of_some _ e) (Nat.le_refl _) new, rfl, q _ (I1.hok.fresh (Nat.le_refl _))⟩
end L2
-- part Pp
set_option maxHeartbeats 8000000
namespace L2
open PySem PySem.Spec PyProof.Rows
/-- two dicts of the same keys with equal data -/
def rEqDT (K : PySem.W.Frag) : R2 := fun x y H Q => ∃ a b ks ls, x = .ref a ∧ y = .ref b ∧ H a = some (.dK ks) ∧ H b = some (.dK ls) ∧ ks.length = ls.length ∧ (∀ p ∈ ks, ∃ u d, valV ls p.1 = some u ∧ Dp K H p.2 d ∧ Dp K H u d ∧ d.canLay0 = true ∧ d.depth ≤ 50) ∧ Q (.bl true) H
theorem op_eqDT {X : Cx} (hu : X.A.units + 64 < cLine) : OpR X (compareOp .Eq) (rEqDT X.K) := by
  rintro pins s σ H x y v u Q I rx ry ⟨a, b, ks, ls, rfl, rfl, ha, hb, hl, hp, q⟩
  refine eqR_run (F := fun x y => ∃ d, Dp X.K H x d ∧ Dp X.K H y d ∧ d.canLay0 = true ∧ d.depth ≤ 50) I (A := X.A) (by omega) ?_ (.inr ⟨a, b, ks, ls, rfl, rfl, ha, hb, hl, fun p m => ?_⟩) rx ry _ _ ⟨.bl true, H, I, rfl, q⟩
  · rintro x y v u ⟨d, h1, h2, h3, h4⟩ r1 r2
    obtain ⟨as, q1⟩ := Dp.reads I d x v h1 r1
    obtain ⟨bs, q2⟩ := Dp.reads I d y u h2 r2
    have z := SeqAt.eqAt_reads d d X.A.in1 s v u as bs q1 q2 h3 h3 (by show X.A.units + 1 + min d.depth d.depth < cLine; omega)
    rw [SeqAt.eqv_refl d h3] at z
    exact z.eqP
  · obtain ⟨u, d, e, z⟩ := hp p m
    exact ⟨u, e, d, z⟩
end L2
namespace Kn
open PySem PySem.Spec PyProof.Rows L2 Err
theorem scS1 : FnScope ["self"] ["self"] (defScope sStepsP) := ⟨rfl, rfl, rfl, by decide +kernel, rfl, by decide +kernel, by decide +kernel⟩
theorem scS2 : FnScope ["self"] ["self"] (defScope sGoodP) := ⟨rfl, rfl, rfl, by decide +kernel, rfl, by decide +kernel, by decide +kernel⟩
theorem scS3 : FnScope ["self"] ["self"] (defScope sStatesP) := ⟨rfl, rfl, rfl, by decide +kernel, rfl, by decide +kernel, by decide +kernel⟩
theorem scS4 : FnScope ["self"] ["self"] (defScope sKindsP) := ⟨rfl, rfl, rfl, by decide +kernel, rfl, by decide +kernel, by decide +kernel⟩
theorem scEq : FnScope ["self", "other"] ["self", "other"] (defScope sEqP) := ⟨rfl, rfl, rfl, by decide +kernel, rfl, by decide +kernel, by decide +kernel⟩
def spSt1 (C : Addr) : Sp := fun vs H Q _ => ∃ p n st gs, vs = [.ref p] ∧ PatAt C H p n st gs ∧ ∀ q kvs, H q = none → LinT H kvs st → Q (.ref q) (upd H q (.dK kvs))
def spSt2 (C : Addr) : Sp := fun vs H Q _ => ∃ p n st gs, vs = [.ref p] ∧ PatAt C H p n st gs ∧ ∀ q, Rd H q (.tup (gs.map V.int)) → Q (.ref q) H
def spSt3 (C : Addr) : Sp := fun vs H Q _ => ∃ p n st gs, vs = [.ref p] ∧ PatAt C H p n st gs ∧ Q (.int (n : Nat)) H
def spSt4 (C : Addr) : Sp := fun vs H Q _ => ∃ p n st gs, vs = [.ref p] ∧ PatAt C H p n st gs ∧ ∀ q, H q = none → Q (.ref q) (upd H q (.tup ((st.map (·.1)).map V.str)))
/-- p == v: v no instance, or a pattern of the same lines -/
def spEqP (K : PySem.W.Frag) (C : Addr) : Sp := fun vs H Q _ => ∃ p n st gs v, vs = [.ref p, v] ∧ PatAt C H p n st gs ∧
  ((∃ t, TyX K H v t ∧ PySem.W.kitOne K t (.ref C) = some false ∧ Q (.bl false) H) ∨ (∃ p2 gs2, v = .ref p2 ∧ PatAt C H p2 n st gs2 ∧ (st.map (·.1)).Nodup ∧ Q (.bl (decide (gs = gs2))) H))
theorem eqv_ints : ∀ a b : List Int, PyData.eqv (.tuple (a.map PyData.int)) (.tuple (b.map PyData.int)) = decide (a = b) := by
  intro a b
  rw [← PySem.W.ked_eqvAll]
  simp [PyData.eqv]
theorem dp_tup {K : PySem.W.Frag} {H : Hp} {a : Addr} {ns : List Int} (h : Rd H a (.tup (ns.map V.int))) : Dp K H (.ref a) (.tuple (ns.map PyData.int)) := .tup (.inl h) (dp_ints ns)
theorem ints_lay : ∀ ns : List Int, PyData.canLayAll0 (ns.map PyData.int) = true ∧ PyData.depthAll (ns.map PyData.int) = 0
  | [] => by simp [PyData.canLayAll0, PyData.depthAll]
  | n :: ns => by
    obtain ⟨a, b⟩ := ints_lay ns
    simp [PyData.canLayAll0, PyData.canLay0, PyData.depthAll, PyData.depth, a, b]
theorem tup_lay (ns : List Int) : (PyData.tuple (ns.map PyData.int)).canLay0 = true ∧ (PyData.tuple (ns.map PyData.int)).depth ≤ 50 := by
  obtain ⟨a, b⟩ := ints_lay ns
  simp [PyData.canLay0, PyData.depth, a, b]
theorem tup_shaped (ns : List Int) : SeqAt.shaped (.tuple (ns.map PyData.int)) = true := by
  obtain ⟨a, b⟩ := tup_lay ns
  unfold SeqAt.shaped
  rw [a, decide_eq_true (by omega)]
  rfl
theorem LinT.mem {H : Hp} {kvs : List (Key × V)} {st : List (Str × List Int)} (h : LinT H kvs st) : ∀ p ∈ kvs, ∃ t ns a, p = (.inr t, .ref a) ∧ (t, ns) ∈ st ∧ Rd H a (.tup (ns.map V.int)) := by
  induction h with
  | nil => intro p hp; cases hp
  | @cons kvs st t a ns h r ih =>
    intro p hp
    rcases List.mem_cons.mp hp with e | e
    · exact ⟨t, ns, a, e, List.mem_cons_self .., h⟩
    · obtain ⟨t2, ns2, a2, e1, e2, e3⟩ := ih p e
      exact ⟨t2, ns2, a2, e1, List.mem_cons_of_mem _ e2, e3⟩
theorem look_mem : ∀ {st : List (Str × List Int)} {t : Str} {ns : List Int}, (st.map (·.1)).Nodup → (t, ns) ∈ st → st.lookup t = some ns
  | (k, v) :: st, t, ns, nd, h => by
    rw [look_cons]
    obtain ⟨n1, n2⟩ := List.nodup_cons.mp (show (k :: st.map (·.1)).Nodup from nd)
    rcases List.mem_cons.mp h with e | e
    · cases e
      rw [if_pos rfl]
    · rw [if_neg fun z => n1 (by rw [z]; exact List.mem_map.mpr ⟨_, e, rfl⟩)]
      exact look_mem n2 e
section
variable {P : Program} {w : World} {K : PySem.W.Frag} {mg : Str → Option Value} {base : Heap}
theorem ok_st1 {f C : Addr} {fd : FuncData} (F : Fun K "steps" "Pattern.steps" sStepsP f fd) (T : PTxt K C) (md : mg "dict" = none) : FnOk P w K mg base CX0 1 f fd ["self"] (spSt1 C) := by
  refine F.ok scS1 (fun vs H Q E h => ?_) (fun cdv A outer s H vs Q E hr h => ?_)
  · obtain ⟨p, n, st, gs, rfl, _⟩ := h
    rfl
  · obtain ⟨p, n, st, gs, rfl, hp, q⟩ := h
    refine ⟨_, pss_one (ps_ret (pe_callTy call_dictD (by rfl) md (by decide +kernel) (pa_cons (pe_fld (pv 0) rfl) pa_nil))), ?_⟩
    obtain ⟨dx, ds, tg, kvs, h1, h2, h3, h4⟩ := hp.ex
    exact ⟨_, rfl, p, C, dx, _, _, rfl, h1, T.cl, T.nS, pf_steps _ _ _, ds, kvs, rfl, .inl h2, fun r nr => q r kvs nr h3⟩
theorem ok_st2 {f C : Addr} {fd : FuncData} (F : Fun K "good" "Pattern.good" sGoodP f fd) (T : PTxt K C) : FnOk P w K mg base CX0 1 f fd ["self"] (spSt2 C) := by
  refine F.ok scS2 (fun vs H Q E h => ?_) (fun cdv A outer s H vs Q E hr h => ?_)
  · obtain ⟨p, n, st, gs, rfl, _⟩ := h
    rfl
  · obtain ⟨p, n, st, gs, rfl, hp, q⟩ := h
    refine ⟨_, pss_one (ps_ret (pe_fld (pv 0) rfl)), ?_⟩
    obtain ⟨dx, ds, tg, kvs, h1, h2, h3, h4⟩ := hp.ex
    exact ⟨_, rfl, p, C, dx, _, _, rfl, h1, T.cl, T.nG, pf_good _ _ _, q tg h4⟩
theorem ok_st3 {f C : Addr} {fd : FuncData} (F : Fun K "states" "Pattern.states" sStatesP f fd) (T : PTxt K C) : FnOk P w K mg base CX0 1 f fd ["self"] (spSt3 C) := by
  refine F.ok scS3 (fun vs H Q E h => ?_) (fun cdv A outer s H vs Q E hr h => ?_)
  · obtain ⟨p, n, st, gs, rfl, _⟩ := h
    rfl
  · obtain ⟨p, n, st, gs, rfl, hp, q⟩ := h
    refine ⟨_, pss_one (ps_ret (pe_fld (pv 0) rfl)), ?_⟩
    obtain ⟨dx, ds, tg, kvs, h1, h2, h3, h4⟩ := hp.ex
    exact ⟨_, rfl, p, C, dx, _, _, rfl, h1, T.cl, T.nT, pf_states _ _ _, q⟩
theorem ok_st4 {f C : Addr} {fd : FuncData} (F : Fun K "kinds" "Pattern.kinds" sKindsP f fd) (T : PTxt K C) (mt : mg "tuple" = none) : FnOk P w K mg base CX0 1 f fd ["self"] (spSt4 C) := by
  refine F.ok scS4 (fun vs H Q E h => ?_) (fun cdv A outer s H vs Q E hr h => ?_)
  · obtain ⟨p, n, st, gs, rfl, _⟩ := h
    rfl
  · obtain ⟨p, n, st, gs, rfl, hp, q⟩ := h
    refine ⟨_, pss_one (ps_ret (pe_callTy (call_tuple_dK rfl) (by rfl) mt (by decide +kernel) (pa_cons (pe_fld (pv 0) rfl) pa_nil))), ?_⟩
    obtain ⟨dx, ds, tg, kvs, h1, h2, h3, h4⟩ := hp.ex
    have e : (kvs.map fun kv => kV kv.1) = (st.map (·.1)).map V.str := by
      have z : (kvs.map (·.1)).map kV = ((st.map (·.1)).map Sum.inr).map kV := by rw [h3.keys]
      rw [List.map_map, List.map_map] at z
      exact z
    refine ⟨_, rfl, p, C, dx, _, _, rfl, h1, T.cl, T.nS, pf_steps _ _ _, ds, kvs, rfl, h2, fun t nt => ?_⟩
    rw [e]
    exact q t nt
/-- what isinstance asks of the class -/
structure PIs (K : PySem.W.Frag) (C : Addr) : Prop where
  ha : PySem.W.findIn K (.ref C) "__class__" = some (some (.builtin "object.__class__"))
  hn : PySem.W.specialIn K (.builtin "object.__class__") "__get__" = some (some (.builtin "getset_descriptor.__get__"))
  htk : PySem.W.takesIn K (.builtin "object.__class__") = some true
  hm : PySem.W.mroIn K C (.type "object") = some true
  own : PySem.W.kitOne K (.ref C) (.ref C) = some true
theorem ok_eq {f C : Addr} {fd : FuncData} (F : Fun K "__eq__" "Pattern.__eq__" sEqP f fd) (T : PTxt K C) (J : PIs K C) (mi : mg "isinstance" = none) (gP : mg "Pattern" = some (.ref C)) : FnOk P w K mg base CX0 1 f fd ["self", "other"] (spEqP K C) := by
  refine F.ok scEq (fun vs H Q E h => ?_) (fun cdv A outer s H vs Q E hr h => ?_)
  · obtain ⟨p, n, st, gs, v, rfl, _⟩ := h
    rfl
  · obtain ⟨p, n, st, gs, v, rfl, hp, h⟩ := h
    refine ⟨_, pss_cons (ps_if (pt_not (pt_val (pe_callB call_isi (by rfl) mi PyProof.Rows.boot_isinstance (pa_cons (pv 1) (pa_cons (pe_glob (v := .ref C) (by rfl) gP rfl) pa_nil))))) (pss_one (ps_ret pe_bl)) pss_nil)
      (pss_one (ps_ret (pe_and (pe_cmpR (op_eqDT hr.units) (pe_fld (pv 0) rfl) (pe_fld (pv 1) rfl) (nomark _)) (pe_one (pe_cmpR (op_eqD hr.units) (pe_fld (pv 0) rfl) (pe_fld (pv 1) rfl) (nomark _)))))), ?_⟩
    rcases h with ⟨t, ht, hk, q⟩ | ⟨p2, gs2, rfl, hp2, nd, q⟩
    · exact ⟨_, rfl, v, .ref C, t, .ref C, false, rfl, .own C, ht, hk, _, rfl, iteT q⟩
    · obtain ⟨dx, ds, tg, kvs, h1, h2, h3, h4⟩ := hp.ex
      obtain ⟨dx2, ds2, tg2, kvs2, i1, i2, i3, i4⟩ := hp2.ex
      refine ⟨_, rfl, _, .ref C, .ref C, .ref C, true, rfl, .own C, .base (.ins i1 T.cl J.ha J.hn J.htk J.hm), J.own, _, rfl, iteF ?_⟩
      have fits : ∀ pr ∈ kvs, ∃ u d, valV kvs2 pr.1 = some u ∧ Dp K H pr.2 d ∧ Dp K H u d ∧ d.canLay0 = true ∧ d.depth ≤ 50 := by
        intro pr hpr
        obtain ⟨t, ns, a, rfl, m, r⟩ := h3.mem pr hpr
        obtain ⟨a2, e2, r2⟩ := i3.get (look_mem nd m)
        exact ⟨_, _, e2, dp_tup r, dp_tup r2, tup_lay ns⟩
      refine ⟨_, rfl, p, C, dx, _, _, rfl, h1, T.cl, T.nS, pf_steps _ _ _, _, rfl, p2, C, dx2, _, _, rfl, i1, T.cl, T.nS, pf_steps _ _ _, ds, ds2, kvs, kvs2, rfl, rfl, h2, i2, h3.len.trans i3.len.symm, fits, _, rfl, iteT ?_⟩
      refine ⟨_, rfl, p, C, dx, _, _, rfl, h1, T.cl, T.nG, pf_good _ _ _, _, rfl, p2, C, dx2, _, _, rfl, i1, T.cl, T.nG, pf_good _ _ _, _, _, dp_tup h4, dp_tup i4, tup_shaped _, tup_shaped _, ?_⟩
      rw [eqv_ints]
      exact q
end
end Kn
-- part Lf
set_option maxHeartbeats 8000000
namespace Kn
open PySem PySem.Spec PyProof.Rows L2 Err
/-- the lines of a model, lists -/
inductive LinL (H : Hp) : List (Key × V) → List (Str × List Int) → Prop
  | nil : LinL H [] []
  | cons {kvs : List (Key × V)} {st : List (Str × List Int)} {t : Str} {a : Addr} {ns : List Int} (h : H a = some (.lst (ns.map V.int))) (r : LinL H kvs st) : LinL H ((.inr t, .ref a) :: kvs) ((t, ns) :: st)
theorem LinL.mono {H H' : Hp} {kvs : List (Key × V)} {st : List (Str × List Int)} (h : LinL H kvs st) (s : ∀ p ∈ kvs, ∀ a o, p.2 = .ref a → H a = some o → H' a = some o) : LinL H' kvs st := by
  induction h with
  | nil => exact .nil
  | cons h r ih => exact .cons (s _ (List.mem_cons_self ..) _ _ rfl h) (ih fun p hp => s p (List.mem_cons_of_mem _ hp))
theorem LinL.same {H H' : Hp} {kvs : List (Key × V)} {st : List (Str × List Int)} (h : LinL H kvs st) (s : Same H H') : LinL H' kvs st := h.mono fun _ _ a o _ e => s a o e
theorem LinL.keys {H : Hp} {kvs : List (Key × V)} {st : List (Str × List Int)} (h : LinL H kvs st) : kvs.map (·.1) = (st.map (·.1)).map Sum.inr := by
  induction h with
  | nil => rfl
  | cons h r ih => rw [List.map_cons, List.map_cons, List.map_cons, ih]
theorem LinL.len {H : Hp} {kvs : List (Key × V)} {st : List (Str × List Int)} (h : LinL H kvs st) : kvs.length = st.length := by
  induction h with
  | nil => rfl
  | cons h _ ih => rw [List.length_cons, List.length_cons, ih]
theorem LinL.snoc {H : Hp} {kvs : List (Key × V)} {st : List (Str × List Int)} {t : Str} {a : Addr} {ns : List Int} (h : LinL H kvs st) (r : H a = some (.lst (ns.map V.int))) : LinL H (kvs ++ [(.inr t, .ref a)]) (st ++ [(t, ns)]) := by
  induction h with
  | nil => exact .cons r .nil
  | cons h _ ih => exact .cons h ih
theorem LinL.get {H : Hp} {kvs : List (Key × V)} {st : List (Str × List Int)} {t : Str} {ns : List Int} (h : LinL H kvs st) (e : st.lookup t = some ns) : ∃ a, valV kvs (.inr t) = some (.ref a) ∧ H a = some (.lst (ns.map V.int)) := by
  induction h with
  | nil => cases e
  | @cons kvs st t2 a ms h r ih =>
    rw [look_cons] at e
    rw [valV_cons]
    by_cases q : t2 = t
    · rw [if_pos q] at e
      cases e
      exact ⟨a, by rw [if_pos (by rw [q])], h⟩
    · rw [if_neg q] at e
      rw [if_neg fun z => q (Sum.inr.inj z)]
      exact ih e
theorem StepL.lin {H H' : Hp} {many : Nat} {ts : List Str} {kvs : List (Key × V)} {ws : List (Str × List Int)} (h : StepL H H' many ts kvs ws) : LinL H' kvs ws := by
  induction h with
  | nil => exact .nil
  | snoc h n e len rng ih => exact ih.snoc e
theorem StepL.names {H H' : Hp} {many : Nat} {ts : List Str} {kvs : List (Key × V)} {ws : List (Str × List Int)} (h : StepL H H' many ts kvs ws) : ws.map (·.1) = ts := by
  induction h with
  | nil => rfl
  | snoc h n e len rng ih => rw [List.map_append, ih]; rfl
theorem StepL.row {H H' : Hp} {many : Nat} {ts : List Str} {kvs : List (Key × V)} {ws : List (Str × List Int)} (h : StepL H H' many ts kvs ws) : ∀ p ∈ ws, p.2.length = many ∧ ∀ k ∈ p.2, 0 ≤ k ∧ k < (many : Int) := by
  induction h with
  | nil => intro p hp; cases hp
  | snoc h n e len rng ih =>
    intro p hp
    rcases List.mem_append.mp hp with z | z
    · exact ih p z
    · rw [List.mem_singleton.mp z]
      exact ⟨len, rng⟩
theorem look_of : ∀ {st : List (Str × List Int)} {t : Str} {ns : List Int}, st.lookup t = some ns → (t, ns) ∈ st
  | (k, v) :: st, t, ns, h => by
    rw [look_cons] at h
    by_cases q : k = t
    · rw [if_pos q] at h
      cases h
      rw [q]
      exact List.mem_cons_self ..
    · rw [if_neg q] at h
      exact List.mem_cons_of_mem _ (look_of h)
/-- a model stands at p -/
structure ModAt (H : Hp) (p sd g : Addr) (kvs : List (Key × V)) (st : List (Str × List Int)) (gs : List Int) : Prop where
  at_ : H p = some (.dK [(.inr "steps", .ref sd), (.inr "good", .ref g)])
  ss : H sd = some (.dK kvs)
  lin : LinL H kvs st
  gg : H g = some (.lst (gs.map V.int))
theorem ModAt.same {H H' : Hp} {p sd g : Addr} {kvs : List (Key × V)} {st : List (Str × List Int)} {gs : List Int} (h : ModAt H p sd g kvs st gs) (s : Same H H') : ModAt H' p sd g kvs st gs := ⟨s _ _ h.at_, s _ _ h.ss, h.lin.same s, s _ _ h.gg⟩
theorem mv_steps (sd g : Addr) : valV ([(.inr "steps", .ref sd), (.inr "good", .ref g)] : List (Key × V)) (.inr "steps") = some (.ref sd) := by kernel_rfl
theorem mv_good (sd g : Addr) : valV ([(.inr "steps", .ref sd), (.inr "good", .ref g)] : List (Key × V)) (.inr "good") = some (.ref g) := by kernel_rfl
theorem ModAt.steps {H : Hp} {p sd g : Addr} {kvs : List (Key × V)} {st : List (Str × List Int)} {gs : List Int} (h : ModAt H p sd g kvs st gs) : DGet H p (.str "steps") (some (.ref sd)) := mv_steps sd g ▸ DGet.k (k := .inr "steps") h.at_
theorem ModAt.good {H : Hp} {p sd g : Addr} {kvs : List (Key × V)} {st : List (Str × List Int)} {gs : List Int} (h : ModAt H p sd g kvs st gs) : DGet H p (.str "good") (some (.ref g)) := mv_good sd g ▸ DGet.k (k := .inr "good") h.at_
abbrev sLFits : Stmt := topS 30
abbrev NLf : List Str := ["_law_told_here", "_law_rows_here", "_law_state", "_law_sort", "_law_number_here"]
theorem scLf : FnScope NLf ["_law_told_here", "_law_rows_here"] (defScope sLFits) := ⟨rfl, rfl, rfl, by decide +kernel, rfl, by decide +kernel, by decide +kernel⟩
def spLFits : Sp := fun vs H Q _ => ∃ p sd g kvs n st gs l rs ts, vs = [.ref p, .ref l] ∧ ModAt H p sd g kvs st gs ∧ PatOk n st ∧ H l = some (.lst rs) ∧ RowT H rs ts ∧ (∀ t ∈ ts, ∃ ns, st.lookup t = some ns) ∧ Q (.bl (fitsF st gs ts)) H
section
variable {P : Program} {w : World} {K : PySem.W.Frag} {mg : Str → Option Value} {base : Heap}
theorem ok_lfits {f : Addr} {fd : FuncData} (F : Fun K "_law_fits" "_law_fits" sLFits f fd) : FnOk P w K mg base CX0 1 f fd ["_law_told_here", "_law_rows_here"] spLFits := by
  have S := scLf
  refine F.ok S (fun vs H Q E h => ?_) (fun cdv A outer s H vs Q E hr h => ?_)
  · obtain ⟨p, sd, g, kvs, n, st, gs, l, rs, ts, rfl, _⟩ := h
    rfl
  · obtain ⟨p, sd, g, kvs, n, st, gs, l, rs, ts, rfl, M, ok, hl, hrs, hts, q⟩ := h
    have hu := hu_of hr
    refine ⟨_, pss_cons (ps_set (i := 2) S.nd rfl (.inl rfl) pe_int)
      (pss_cons (ps_for PassesOwn.never rfl (pi_list (pv 1)) (pg_tup rfl (pgs_cons (pg_name (i := 3) S.nd rfl (.inl rfl)) (pgs_cons (pg_name (i := 4) S.nd rfl (.inl rfl)) pgs_nil)))
        (pss_one (ps_set (i := 2) S.nd rfl (.inl rfl) (pe_ix ix_list (pe_dget hu (pe_dget hu (pv 0) pe_str (fun _ _ => rfl)) (pv 3) (fun _ _ => rfl)) (pv 2) (fun _ _ => rfl)))))
      (pss_one (ps_ret (pe_cmpR op_in_seq (pv 2) (pe_dget hu (pv 0) pe_str (fun _ _ => rfl)) (by rfl))))), ?_⟩
    refine ⟨_, rfl, l, rfl, ⟨_, SqL.of hl⟩, for_list (xs := rs) (fun i σ H2 => ∃ y4 y5, σ = [some (.ref p), some (.ref l), some (.int (goF st (ts.take i))), y4, y5] ∧ H2 = H)
      ⟨_, _, rfl, rfl⟩ (fun i σ H2 _ ⟨_, _, _, e⟩ => by rw [e]; exact SqL.of hl) ?_ ?_⟩
    · rintro i x σ H2 hx ⟨y4, y5, rfl, rfl⟩
      obtain ⟨a, t, k, rfl, ht, ha⟩ := hrs.get hx
      obtain ⟨ns, hns⟩ := hts t (List.mem_of_getElem? ht)
      obtain ⟨g0, g1⟩ := goF_in ok hts i
      obtain ⟨e1, e2, e3⟩ := stepF_in ok g0 g1 hns
      obtain ⟨b, hb, hrb⟩ := M.lin.get hns
      refine ⟨a, _, rfl, .inl (.inl ha), rfl, _, _, rfl, _, _, rfl, rfl, ?_⟩
      refine ⟨_, rfl, p, _, rfl, M.steps, _, rfl, sd, _, rfl, hb ▸ DGet.k (k := Sum.inr t) M.ss, _, rfl, b, _, _, _, rfl, rfl, SqL.of hrb, at_of (by omega : goF st (ts.take i) = ((goF st (ts.take i)).toNat : Int)) (by rw [List.getElem?_map, e1]; rfl), ?_⟩
      exact ⟨some (.str t), some k, by rw [goF_succ ht]; rfl, rfl⟩
    · rintro σ H2 ⟨y4, y5, rfl, rfl⟩
      rw [hrs.len, List.take_length]
      refine ⟨_, rfl, _, rfl, p, _, rfl, M.good, g, _, rfl, .inl (SqL.of M.gg), rfl, flat_ints _, ?_⟩
      rw [if_neg (by decide), inV_ints]
      exact q
end
end Kn
-- part Lv
set_option maxHeartbeats 4000000
/-! list(d.values()). -/
namespace L2
open PySem PySem.Spec PyProof.Rows
def tListV (te : TE) : TE := fun σ H Q => te σ H fun x H1 => ∃ d kvs, x = .ref d ∧ H1 d = some (.dK kvs) ∧ ∀ p, H1 p = none → Q (.ref p) (upd H1 p (.lst (kvs.map (·.2))))
theorem kv_snd : ∀ {kvs : List (Key × V)} {vs : List (Key × Value)}, KV kvs vs → ∀ {j : Nat} {k : Key} {u : Value} {x : V}, vs[j]? = some (k, u) → (kvs.map (·.2))[j]? = some x → RelV x u := by
  intro kvs vs h
  unfold KV at h
  induction h with
  | nil => intro j k u x e _; simp at e
  | cons a _ ih =>
    intro j k u x e1 e2
    cases j with
    | zero =>
      cases e1
      cases e2
      exact a.2
    | succ j => exact ih (by simpa using e1) (by simpa using e2)
section
variable {X : Cx} {e : Expr} {te : TE} {p pos apos cpos : Pos}
theorem pe_listV (hc : X.calm = true) (he : PE X e te) (hg : Gl X "list") (hm : X.mg "list" = none) (hbase : attributeBase e "values" X.env (eval e X.env) = eval e X.env := by rfl) (hline : (apos.endLine == cpos.line) = true := by rfl)
    (hs : starEach [.Call (.Attribute e "values" apos) [] [] cpos] X.env = (false, eval (.Call (.Attribute e "values" apos) [] [] cpos) X.env) :: starEach [] X.env := by rfl) :
    PE X (.Call (.Name "list" p) [.Call (.Attribute e "values" apos) [] [] cpos] [] pos) (tListV te) := by
  constructor
  intro pins s σ H Q I hq
  refine wpAny_Call_Name_kw (ld_blt (u := .type "list") I hg hm (by decide +kernel) ?_)
  refine PyProof.Rows.callWith_type1 ?_ hs rfl
  rw [hs]
  change wpAny _ _ (spliced ((false, eval (.Call (.Attribute e "values" apos) [] [] cpos) X.env) :: backTo pos (starEach [] X.env))) _ _ s
  apply Calls.spliced_cons
  refine wpAny_Call_method (T := "dict") (id := "dict.values") hbase rfl hline F.plainAttrs_dict F.slot_dict_values F.type_dict_values (thn (he.run pins s σ H _ I hq) ?_)
  rintro u s1 ⟨x, H1, I1, rx, d, kvs, rfl, hd, q⟩
  cases (show u = Value.ref d from rx)
  obtain ⟨hz, lo, vs, kv, dof⟩ := (show ObjOk X.prog X.w H1 s1.heap d (.dK kvs) from I1.hok d _ hd)
  obtain ⟨ep, dat⟩ := dof.dictAt
  have lk : kvs.length = vs.length := Paired.length kv
  have kp0 : ∀ b o, s1.heap.get? b = some o → (s1.heap.push { cls := .type "dict_values", data := .fields #[.ref d] }).get? b = some o := fun b o z => Heap.get?_push_of_some _ z
  have I2 : Inv X pins σ H1 { s1 with heap := s1.heap.push { cls := .type "dict_values", data := .fields #[.ref d] } } := I1.kept (t' := s1.toks) kp0
  refine ⟨dof.typeIs, dof.mapOf.noDict, ?_⟩
  change wpAny _ _ (callWith cpos (.builtin "dict.values") [.ref d] [] []) _ X.xe s1
  refine method_meetsIn F.slot_dict_values F.entry_dict_values rfl (PySem.evalArgs_none ⟨rfl, dof.typeIs, F.args_dict_values_1 _, _, meets_dict_values (mixKind X.prog X.w) d lo, ⟨vs, dof⟩, ?_⟩)
  apply Calls.spliced_nil
  refine PySem.W.kdl_call (PySem.W.kdl_values (knd := mixKind X.prog X.w) (kvs := vs) (ep := ep)) (I1.ok.hd hc) ⟨⟨_, Heap.get?_push_size _ rfl, rfl, rfl⟩, dat.push _⟩ (by rw [← lk]; exact hz) fun g tk acc c hk hS it => ?_
  have al : acc.toList.length = vs.length := by rw [Array.length_toList, it.1]
  have rel : Vals (kvs.map (·.2)) acc.toList := by
    refine vals_of_at (by rw [List.length_map, al, lk]) fun j x v h1 h2 => ?_
    obtain ⟨k, e1⟩ := it.2 j v (by rw [← Array.getElem?_toList]; exact h2)
    exact kv_snd kv e1 h1
  refine ⟨.ref _, _, I2.laid (t' := tk) hk (Nat.le_refl _) (show ObjOk X.prog X.w _ _ _ (.lst (kvs.map (·.2))) from ⟨by rw [List.length_map]; exact hz, acc.toList, c, rel, by rw [Array.toArray_toList]; exact hS⟩), rfl, q _ (I2.hok.fresh (Nat.le_refl _))⟩
end
end L2
-- part Le
set_option maxHeartbeats 4000000
/-! len(set(x)), x a list or a tuple of ints, some of them equal perhaps. -/
namespace L2
open PySem PySem.Spec PyProof.Rows
theorem sub_len : ∀ {L ns : List Int}, L.Nodup → (∀ x ∈ L, x ∈ ns) → L.length ≤ ns.length
  | [], _, _, _ => Nat.zero_le _
  | x :: L, ns, nd, h => by
    obtain ⟨n1, n2⟩ := List.nodup_cons.mp nd
    have hx := h x (List.mem_cons_self ..)
    have z := sub_len (L := L) (ns := ns.erase x) n2 fun y hy => (List.mem_erase_of_ne (fun e => n1 (by rw [← e]; exact hy))).mpr (h y (List.mem_cons_of_mem _ hy))
    rw [List.length_erase_of_mem hx] at z
    have := List.length_pos_of_mem hx
    rw [List.length_cons]
    omega
theorem twice : ∀ {ns : List Int}, ¬ ns.Nodup → ∃ x, x ∈ ns ∧ x ∈ ns.erase x
  | [], h => absurd List.nodup_nil h
  | y :: ys, h => by
    by_cases hy : y ∈ ys
    · exact ⟨y, List.mem_cons_self .., by rw [List.erase_cons_head]; exact hy⟩
    · have h2 : ¬ ys.Nodup := fun z => h (List.nodup_cons.mpr ⟨hy, z⟩)
      obtain ⟨x, h3, h4⟩ := twice h2
      refine ⟨x, List.mem_cons_of_mem _ h3, ?_⟩
      by_cases e : y = x
      · subst e
        exact absurd h3 hy
      · rw [List.erase_cons_tail (by simpa using e)]
        exact List.mem_cons_of_mem _ h4
theorem same_len {L ns : List Int} (nd : L.Nodup) (h : ∀ x, x ∈ L ↔ x ∈ ns) : L.length = ns.length ↔ ns.Nodup := by
  constructor
  · intro e
    refine Classical.byContradiction fun hn => ?_
    obtain ⟨x, h1, h2⟩ := twice hn
    have z := sub_len (ns := ns.erase x) nd fun y hy => by
      by_cases q : y = x
      · rw [q]; exact h2
      · exact (List.mem_erase_of_ne q).mpr ((h y).mp hy)
    rw [List.length_erase_of_mem h1] at z
    have := List.length_pos_of_mem h1
    omega
  · intro hn
    have a := sub_len nd fun x hx => (h x).mp hx
    have b := sub_len hn fun x hx => (h x).mpr hx
    omega
theorem met_nodup (f : Nat → Int) : ∀ i, (firstMet f i).Nodup
  | 0 => List.nodup_nil
  | i + 1 => by
    rw [firstMet_succ]
    unfold step_dedup
    split
    · exact met_nodup f i
    · rename_i h
      refine List.nodup_append.mpr ⟨met_nodup f i, List.pairwise_singleton _ _, fun a ha b hb e => h ?_⟩
      rw [List.mem_singleton.mp hb] at e
      exact List.any_eq_true.mpr ⟨a, ha, by rw [e]; exact beq_self_eq_true _⟩
theorem met_mem (ns : List Int) (x : Int) : x ∈ firstMet (fun i => ns.getD i 0) ns.length ↔ x ∈ ns := by
  have e := firstMet_any (fun i => ns.getD i 0) ns.length x
  have m : (List.range ns.length).map (fun i => ns.getD i 0) = ns := by
    refine List.ext_getElem (by rw [List.length_map, List.length_range]) fun i h1 h2 => ?_
    rw [List.getElem_map, List.getElem_range, List.getD_eq_getElem?_getD, List.getElem?_eq_getElem h2]
    rfl
  rw [m] at e
  have c : ∀ L : List Int, L.any (· == x) = true ↔ x ∈ L := fun L => by
    rw [List.any_eq_true]
    exact ⟨fun ⟨y, hy, q⟩ => (beq_iff_eq.mp q) ▸ hy, fun hx => ⟨x, hx, beq_self_eq_true _⟩⟩
  rw [← c, ← c, e]
section
variable {X : Cx}
def tLenSetA (K : PySem.W.Frag) (ta : TE) : TE := fun σ H Q => ta σ H fun x H1 => ∃ (l : Addr) (ns : List Int), x = V.ref l ∧ (SqL K H1 l (ns.map V.int) ∨ SqT K H1 l (ns.map V.int)) ∧ ns.length ≤ 1000 ∧ ∀ n : Nat, (n = ns.length ↔ ns.Nodup) → Q (.int (n : Nat)) H1
theorem pe_lenSetA {a : Expr} {ta : TE} {p p2 q pos : Pos} (hc : X.calm = true) (hg : Gl X "len") (hm : X.mg "len" = none) (hg2 : Gl X "set") (hm2 : X.mg "set" = none) (ha : PE X a ta)
    (na : starEach [a] X.env = (false, eval a X.env) :: starEach [] X.env := by rfl) : PE X (.Call (.Name "len" p) [.Call (.Name "set" p2) [a] [] q] [] pos) (tLenSetA X.K ta) := by
  constructor
  intro pins s σ H Q I h
  refine Call_ (ld_blt (u := .builtin "len") I hg hm PySem.boot_len ?_)
  refine PyProof.Rows.callWith_builtin1 (PyProof.Rows.args_cons ?_ rfl) rfl rfl
  refine Call_ (ld_blt (u := .type "set") I hg2 hm2 PyProof.Rows.boot_set ?_)
  refine PyProof.Rows.callWith_type1 (PyProof.Rows.args_cons (thn (ha.run pins s σ H _ I h) fun v s1 ⟨x, H1, I1, r1, q1⟩ => PyProof.Rows.args_nil ?_) na) na rfl
  obtain ⟨l, ns, rfl, hq, h1, q1⟩ := q1
  cases r1
  rcases hq with hq | hq
  · obtain ⟨its, r, pl, hz⟩ := I1.list hq
    have hl : its.toArray.size = ns.length := by rw [List.size_toArray, ← r.length, List.length_map]
    refine call_set_list (I1.ok.hd hc) pl.isList (ns := ns) (by simpa using r.ints) (by unfold scanBound; omega) fun g tk hS hk => ?_
    rw [hl] at hS
    refine PyProof.Rows.args_nil ?_
    have hlen := firstMet_length_le (fun i => ns.getD i 0) ns.length
    have key := same_len (met_nodup (fun i => ns.getD i 0) ns.length) (met_mem ns)
    generalize (firstMet (fun i => ns.getD i 0) ns.length).length = n at hS hlen key
    obtain ⟨o, es, ep, t, ho, hex, hd, _, _, _, hf, hn⟩ := hS
    have I2 : Inv X pins σ H1 { s1 with heap := g, toks := tk } := I1.kept fun b o e => hk b o (Heap.lt_size e) e
    exact call_len_set ho hex hd hf (by rw [hn] <;> omega) ⟨.int (n : Nat), H1, I2.tok _, ⟨_, by rw [hn]⟩, q1 _ key⟩
  · obtain ⟨its, r, pl, hz⟩ := I1.tuple hq
    refine call_set_tupI ns (I1.ok.hd hc) pl (by simpa using r.ints) (by unfold scanBound; omega) fun g tk c hS hc' hk => ?_
    refine PyProof.Rows.args_nil ?_
    obtain ⟨o, es, ep, t, ho, hex, hd, _, hnd, hmem, _, hf, hn, _⟩ := hS
    have key : c = ns.length ↔ ns.Nodup := by
      have z := same_len hnd (ns := ns) fun x => by rw [← hmem x]; exact decide_eq_true_iff
      rw [List.length_map, Array.length_toList, hn] at z
      exact z
    have I2 : Inv X pins σ H1 { s1 with heap := g, toks := tk } := I1.kept hk
    exact call_len_set ho hex hd hf (by rw [hn] <;> omega) ⟨.int (c : Nat), H1, I2.tok _, ⟨_, by rw [hn]⟩, q1 _ key⟩
end
end L2
-- part Nn
set_option maxHeartbeats 4000000
/-! xs != [], whatever the items are. -/
namespace L2
open PySem PySem.Spec PyProof.Rows
def rNeNil : R2 := fun x y H Q => ∃ a b xs, x = .ref a ∧ y = .ref b ∧ H a = some (.lst xs) ∧ H b = some (.lst []) ∧ Q (.bl (!xs.isEmpty)) H
theorem op_neNil {X : Cx} (hu : X.A.units < cLine) : OpR X (compareOp .NotEq) rNeNil := by
  rintro pins s σ H x y v u Q I rx ry ⟨a, b, xs, rfl, rfl, ha, hb, q⟩
  cases (show v = Value.ref a from rx)
  cases (show u = Value.ref b from ry)
  obtain ⟨us, r1, p1, _⟩ := I.list (SqL.of ha)
  obtain ⟨ws, r2, p2, _⟩ := I.list (SqL.of hb)
  have hl := r1.length
  cases r2
  change wpAny _ _ (richCompare .NotEq _ _) _ _ _
  cases xs with
  | nil =>
    cases r1
    exact SeqAt.RcNeAt.lists p1.isList p2.isList rfl hu (e := fun _ => true) (fun j h1 _ => absurd h1 (Nat.not_lt_zero j)) _ _ _ _ ⟨.bl false, H, I, rfl, q⟩
  | cons x xs =>
    refine SeqAt.RcNeAt.lists_lengths p1.isList p2.isList ?_ hu _ _ _ _ ⟨.bl true, H, I, rfl, q⟩
    rw [List.size_toArray, ← hl]
    rfl
end L2
-- part Ld
set_option maxHeartbeats 8000000
namespace Kn
open PySem PySem.Spec PyProof.Rows L2 Err
abbrev sLDue : Stmt := topS 33
abbrev NLd : List Str := ["_law_steps_here", "_law_good_here", "_law_lines", "_law_many", "_law_line", "_law_key", "_law_state"]
theorem scLd : FnScope NLd ["_law_steps_here", "_law_good_here"] (defScope sLDue) := ⟨rfl, rfl, rfl, by decide +kernel, rfl, by decide +kernel, by decide +kernel⟩
/-- the items of a list that pass, one after the other, into a new list -/
def PK (H1 : Hp) (D : Addr) (xs : List V) (bs : List Bool) (i : Nat) (H : Hp) : Prop := Same H1 H ∧ ∃ acc : List V, H D = some (.lst acc) ∧ acc.length ≤ i ∧ (acc.isEmpty = !(bs.take i).any id)
theorem PK.zero {H1 : Hp} {D : Addr} {xs : List V} {bs : List Bool} (n : H1 D = none) : PK H1 D xs bs 0 (upd H1 D (.lst [])) := ⟨same_new n, [], upd_same, Nat.le_refl _, rfl⟩
theorem PK.yes {H1 H H4 : Hp} {D : Addr} {xs : List V} {bs : List Bool} {i : Nat} {v : V} (p : PK H1 D xs bs i H) (s : Same H H4) (n : H1 D = none) (hi : i ≤ 900) (hb : bs[i]? = some true) :
    ∃ acc, H4 D = some (.lst acc) ∧ acc.length < sizeLine ∧ PK H1 D xs bs (i + 1) (upd H4 D (.lst (acc ++ [v]))) := by
  obtain ⟨s1, acc, e, l, _⟩ := p
  refine ⟨acc, s _ _ e, small1000 (by omega), same_own n (s1.trans s), acc ++ [v], upd_same, by rw [List.length_append]; simpa using l, ?_⟩
  rw [List.take_add_one, hb, List.any_append]
  simp
theorem PK.no {H1 H H4 : Hp} {D : Addr} {xs : List V} {bs : List Bool} {i : Nat} (p : PK H1 D xs bs i H) (s : Same H H4) (hb : bs[i]? = some false) : PK H1 D xs bs (i + 1) H4 := by
  obtain ⟨s1, acc, e, l, q⟩ := p
  refine ⟨s1.trans s, acc, s _ _ e, Nat.le_succ_of_le l, ?_⟩
  rw [List.take_add_one, hb, List.any_append, q]
  simp
theorem PK.all {H1 H : Hp} {D : Addr} {xs : List V} {bs : List Bool} (p : PK H1 D xs bs bs.length H) : ∃ acc : List V, H D = some (.lst acc) ∧ (!acc.isEmpty) = bs.any id := by
  obtain ⟨_, acc, e, _, q⟩ := p
  rw [List.take_length] at q
  exact ⟨acc, e, by rw [q, Bool.not_not]⟩
def dueL (u ug : W) : List V := if movesW u = true then (if goodW (manyW u) ug = true then [] else [.str "good"]) else [.str "steps"]
theorem SqA.two {K : PySem.W.Frag} {H : Hp} {b : Addr} {ys : List V} (h : SqA H b ys) : SqL K H b ys ∨ SqT K H b ys := by
  rcases h with z | z
  · exact .inl (SqL.of z)
  · exact .inr (.inl z)
/-- one line of steps, as the law looks at it -/
def lineOk (w : W) : Bool := isSeq w && (decide (1 ≤ lenW w) && decide (lenW w ≤ 4))
theorem moves_of {kws : List (Option Key × W)} (h0 : isDctN 1 3 (.dct kws) = true) {m : Int} (ne : kws ≠ []) (h1 : ∀ p ∈ kws, lineOk p.2 = true) (h2 : ∀ p ∈ kws, lenW p.2 = m ∧ (items p.2).all (withinW 0 (m - 1)) = true) : movesW (.dct kws) = true ∧ mostW kws = m := by
  obtain ⟨p0, hp0⟩ := List.exists_mem_of_ne_nil kws ne
  have hm : mostW kws = m := by
    have a : m ≤ mostW kws := le_maxI (List.mem_map.mpr ⟨p0, hp0, (h2 p0 hp0).1⟩)
    have b : mostW kws ≤ m := by
      refine maxI_le ?_ fun y hy => ?_
      · rw [← (h2 p0 hp0).1]
        show (-1 : Int) ≤ ((items p0.2).length : Int)
        omega
      · obtain ⟨p, hp, rfl⟩ := List.mem_map.mp hy
        rw [(h2 p hp).1]
        exact Int.le_refl _
    omega
  refine ⟨?_, hm⟩
  have l0 := h1 p0 hp0
  unfold lineOk at l0
  obtain ⟨_, l2⟩ := Bool.and_eq_true_iff.mp l0
  rw [(h2 p0 hp0).1] at l2
  show (isDctN 1 3 (.dct kws) && (kws.all (fun p => isSeq p.2) && (decide (1 ≤ mostW kws) && (decide (mostW kws ≤ 4) && kws.all fun p => decide (lenW p.2 = mostW kws) && statesW (mostW kws) p.2)))) = true
  have a1 : (kws.all fun p => isSeq p.2) = true := List.all_eq_true.mpr fun p hp => (Bool.and_eq_true_iff.mp (h1 p hp)).1
  have a2 : (kws.all fun p => decide (lenW p.2 = m) && statesW m p.2) = true := List.all_eq_true.mpr fun p hp => by
    obtain ⟨q1, q2⟩ := h2 p hp
    unfold statesW
    rw [decide_eq_true q1, (Bool.and_eq_true_iff.mp (h1 p hp)).1, q2]
    rfl
  rw [hm, h0, a1, a2, Bool.true_and, Bool.true_and, Bool.and_true]
  exact l2
theorem moves_in {kws : List (Option Key × W)} (h : movesW (.dct kws) = true) : ∀ p ∈ kws, lineOk p.2 = true ∧ lenW p.2 = mostW kws ∧ (items p.2).all (withinW 0 (mostW kws - 1)) = true := by
  intro p hp
  obtain ⟨d1, d2⟩ := Bool.and_eq_true_iff.mp (show (isDctN 1 3 (.dct kws) && _) = true from h)
  obtain ⟨d3, d4⟩ := Bool.and_eq_true_iff.mp d2
  obtain ⟨d5, d6⟩ := Bool.and_eq_true_iff.mp d4
  obtain ⟨d7, d8⟩ := Bool.and_eq_true_iff.mp d6
  obtain ⟨d9, d10⟩ := Bool.and_eq_true_iff.mp (List.all_eq_true.mp d8 p hp)
  have e := of_decide_eq_true d9
  refine ⟨?_, e, (Bool.and_eq_true_iff.mp (show (isSeq p.2 && _) = true from d10)).2⟩
  unfold lineOk
  rw [List.all_eq_true.mp d3 p hp, e, d5, d7]
  rfl
theorem count_nodup (ns : List Int) : (ns.all fun k => decide (ns.count k = 1)) = true ↔ ns.Nodup := by
  rw [List.all_eq_true, List.nodup_iff_count]
  constructor
  · intro h a
    by_cases ha : a ∈ ns
    · exact Nat.le_of_eq (of_decide_eq_true (h a ha))
    · rw [List.count_eq_zero.mpr ha]
      exact Nat.zero_le _
  · intro h a ha
    have := h a
    have := List.count_pos_iff.mpr ha
    exact decide_eq_true (by omega)
def spLDue : Sp := fun vs H Q _ => ∃ v g u ug, vs = [v, g] ∧ Is H v u ∧ NF H v ∧ Is H g ug ∧ ∀ r H', Same H H' → H r = none → H' r = some (.lst (dueL u ug)) → Q (.ref r) H'
section
variable {P : Program} {w : World} {K : PySem.W.Frag} {mg : Str → Option Value} {base : Heap}
theorem ok_ldue {f f1 f2 : Addr} {fd fd1 fd2 : FuncData} (F : Fun K "_law_due" "_law_due" sLDue f fd) (G1 : FnOk P w K mg base CX0 1 f1 fd1 ["_law_thing_here"] spLTitle) (k1 : PySem.W.keepIn K (.ref f1) = true) (b1 : Binds K fd1 ["_law_thing_here"] []) (g1 : mg "_law_is_title" = some (.ref f1))
    (G2 : FnOk P w K mg base CX0 1 f2 fd2 ["_law_thing_here", "_law_many"] spLState) (k2 : PySem.W.keepIn K (.ref f2) = true) (b2 : Binds K fd2 ["_law_thing_here", "_law_many"] []) (g2 : mg "_law_is_state" = some (.ref f2))
    (mi : mg "isinstance" = none) (m1 : mg "dict" = none) (m2 : mg "list" = none) (m3 : mg "tuple" = none) (ml : mg "len" = none) (ms : mg "set" = none) : FnOk P w K mg base CX0 2 f fd ["_law_steps_here", "_law_good_here"] spLDue := by
  have S := scLd
  refine F.ok S (fun vs H Q E h => ?_) (fun cdv A outer s H vs Q E hr h => ?_)
  · obtain ⟨v, g, u, ug, rfl, _⟩ := h
    rfl
  · obtain ⟨v, g, u, ug, rfl, hv, nf, hg, q⟩ := h
    have hu := hu_of hr
    have hu0 : (envOfC "_law_due" (defScope sLDue) s.heap.objs.size f cdv |> A.deeper).units < cLine := by exact hr.units0
    refine ⟨_, pss_cons (ps_if (PW.pt (pw_or (pt_not (pt_val (pe_callB call_isi (by rfl) mi PyProof.Rows.boot_isinstance (pa_cons (pv 0) (pa_cons (pe_bltn (v := .ty "dict") (by rfl) m1 (by decide +kernel) rfl) pa_nil)))))
        (pw_or1 (pt_not (pt_chain op_le op_le pe_int (pe_callB call_lenD (by rfl) ml PySem.boot_len (pa_cons (pv 0) pa_nil)) pe_int))))) (pss_one (ps_ret (pe_lst (pa_cons pe_str pa_nil)))) pss_nil)
      (pss_cons (ps_if (pt_cmpR (op_neNil hu0) (pe_lock (pe_lc (own := [("_law_key", 5)]) (g := gName 5) rfl S.nd (pi_keys (pv 0)) (blkOk_by (N := NLd) (sc := defScope sLDue) (by decide +kernel)) (fun _ _ _ _ _ => pg_name (i := 5) S.nd rfl (.inl rfl)) (fun _ _ _ _ _ => pts_one (pt_not (pt_val (pe_call G1 hr (by rfl) g1 k1 b1 .nil pass0 (pa_cons (pv 5) pa_nil)))))
          (fun _ _ _ _ _ => pv 5))) (pe_lst pa_nil) (nomark _)) (pss_one (ps_ret (pe_lst (pa_cons pe_str pa_nil)))) pss_nil)
      (pss_cons (ps_set (i := 2) S.nd rfl (.inl rfl) (pe_listV (by rfl) (pv 0) (by rfl) m2))
      (pss_cons (ps_if (pt_cmpR (op_neNil hu0) (pe_lc (own := [("_law_line", 4)]) (g := gName 4) rfl S.nd (pi_list (pv 2)) (blkOk_by (N := NLd) (sc := defScope sLDue) (by decide +kernel)) (fun _ _ _ _ _ => pg_name (i := 4) S.nd rfl (.inl rfl))
          (fun _ _ _ _ _ => pts_one (PW.pt (pw_or (pt_not (pt_val (pe_callB (show CallR _ (.builtin "isinstance") (rIsiT K) from call_isiT) (by rfl) mi PyProof.Rows.boot_isinstance (pa_cons (pv 4) (pa_cons (pe_tup (pa_cons (pe_bltn (v := .ty "list") (by rfl) m2 (by decide +kernel) rfl) (pa_cons (pe_bltn (v := .ty "tuple") (by rfl) m3 (by decide +kernel) rfl) pa_nil))) pa_nil)))))
            (pw_or1 (pt_not (pt_chain op_le op_le pe_int (pe_callB (show CallR _ (.builtin "len") (rLenA K) from call_len_seq) (by rfl) ml PySem.boot_len (pa_cons (pv 4) pa_nil)) pe_int))))))
          (fun _ _ _ _ _ => pv 4)) (pe_lst pa_nil) (nomark _)) (pss_one (ps_ret (pe_lst (pa_cons pe_str pa_nil)))) pss_nil)
      (pss_cons (ps_set (i := 3) S.nd rfl (.inr rfl) (pe_callB call_len_seq (by rfl) ml PySem.boot_len (pa_cons (pe_ix ix_list (pv 2) pe_int (fun _ _ => rfl)) pa_nil)))
      (pss_cons (ps_for PassesOwn.never rfl (pi_list (pv 2)) (pg_name (i := 4) S.nd rfl (.inl rfl))
          (pss_one (ps_if (PW.pt (pw_or (pt_cmpR op_ne (pe_callB call_len_seq (by rfl) ml PySem.boot_len (pa_cons (pv 4) pa_nil)) (pv 3) (nomark _))
            (pw_or1 (pt_cmpR (op_neNil hu0) (pe_lc (own := [("_law_state", 6)]) (g := gName 6) rfl S.nd (pi_both (pi_list (pv 4)) (pi_tup (pv 4))) (blkOk_by (N := NLd) (sc := defScope sLDue) (by decide +kernel)) (fun _ _ _ _ _ => pg_name (i := 6) S.nd rfl (.inl rfl))
              (fun _ _ _ _ _ => pts_one (pt_not (pt_val (pe_call G2 hr (by rfl) g2 k2 b2 .nil pass0 (pa_cons (pv 6) (pa_cons (pv 3) pa_nil)))))) (fun _ _ _ _ _ => pv 6)) (pe_lst pa_nil) (nomark _))))) (pss_one (ps_ret (pe_lst (pa_cons pe_str pa_nil)))) pss_nil)))
      (pss_cons (ps_if (pt_not (pt_val (pe_callB call_isiT (by rfl) mi PyProof.Rows.boot_isinstance (pa_cons (pv 1) (pa_cons (pe_tup (pa_cons (pe_bltn (v := .ty "list") (by rfl) m2 (by decide +kernel) rfl) (pa_cons (pe_bltn (v := .ty "tuple") (by rfl) m3 (by decide +kernel) rfl) pa_nil))) pa_nil))))) (pss_one (ps_ret (pe_lst (pa_cons pe_str pa_nil)))) pss_nil)
      (pss_cons (ps_if (pt_cmpR (op_neNil hu0) (pe_lc (own := [("_law_state", 6)]) (g := gName 6) rfl S.nd (pi_both (pi_list (pv 1)) (pi_tup (pv 1))) (blkOk_by (N := NLd) (sc := defScope sLDue) (by decide +kernel)) (fun _ _ _ _ _ => pg_name (i := 6) S.nd rfl (.inl rfl))
              (fun _ _ _ _ _ => pts_one (pt_not (pt_val (pe_call G2 hr (by rfl) g2 k2 b2 .nil pass0 (pa_cons (pv 6) (pa_cons (pv 3) pa_nil)))))) (fun _ _ _ _ _ => pv 6)) (pe_lst pa_nil) (nomark _)) (pss_one (ps_ret (pe_lst (pa_cons pe_str pa_nil)))) pss_nil)
      (pss_one (ps_ret (pe_ifExp (pt_cmpR op_ne (pe_lenSetA (by rfl) (by rfl) ml (by rfl) ms (pv 1)) (pe_callB call_len_seq (by rfl) ml PySem.boot_len (pa_cons (pv 1) pa_nil)) (nomark _)) (pe_lst (pa_cons pe_str pa_nil)) (pe_lst pa_nil))))))))))), ?_⟩
    have retS : movesW u = false → ∀ Hc, Same H Hc → ∀ p, Hc p = none → Q (.ref p) (upd Hc p (.lst [.str "steps"])) := fun e Hc sc p np => by
      have z := q p (upd Hc p (.lst [.str "steps"])) (same_own (sc.free np) sc) (sc.free np)
      unfold dueL at z
      rw [if_neg (by rw [e]; decide)] at z
      exact z upd_same
    refine ⟨_, rfl, v, .ty "dict", .type (tyN u), .type "dict", isTy "dict" u, rfl, .ty _, hv.ty, Is.kit (by decide), _, rfl, ?_⟩
    have hs : (∃ kws, u = .dct kws) ∨ (isTy "dict" u = false ∧ movesW u = false) := by
      cases u with
      | dct kws => exact .inl ⟨kws, rfl⟩
      | _ => exact .inr ⟨by kernel_rfl, rfl⟩
    rcases hs with ⟨kws, rfl⟩ | ⟨e1, e2⟩
    · cases hv with
      | @dct a kvs _ hz hd hkv =>
        obtain ⟨ks, hd, rfl⟩ := hd
        have hd : H a = some (.dK ks) := by
          rcases hd with hd | ⟨o, hd⟩
          · exact hd
          · exact absurd hd (nf a o _ rfl)
        rw [List.length_map] at hz
        have e : isTy "dict" (.dct kws) = true := by kernel_rfl
        have lk : ks.length = kws.length := by
          have z := hkv.len
          rw [List.length_map] at z
          exact z
        have ev : isDctN 1 3 (.dct kws) = (decide ((1 : Int) ≤ (kws.length : Int)) && (decide ((kws.length : Int) ≤ 3) && kws.all fun p => isNameK p.1)) := rfl
        have noD : isDctN 1 3 (.dct kws) = false → movesW (.dct kws) = false := fun e => by
          show (isDctN 1 3 (.dct kws) && _) = false
          rw [e]
          rfl
        rw [e]
        refine iteF ⟨_, rfl, a, ks, rfl, hd, _, _, rfl, rfl, _, rfl, ?_⟩
        rw [lk]
        cases e1 : decide ((1 : Int) ≤ (kws.length : Int)) with
        | false => exact iteF ⟨_, rfl, iteT ⟨by show 1 ≤ sizeLine; decide, fun p np => retS (noD (by rw [ev, e1]; rfl)) H (Same.refl _) p np⟩⟩
        | true =>
          refine iteT ⟨_, _, rfl, rfl, _, rfl, ?_⟩
          cases e2 : decide ((kws.length : Int) ≤ 3) with
          | false => exact iteT ⟨by show 1 ≤ sizeLine; decide, fun p np => retS (noD (by rw [ev, e1, e2]; rfl)) H (Same.refl _) p np⟩
          | true =>
            rw [e1, e2] at ev
            refine iteF ⟨a, _, hd, trivial, fun od => ?_⟩
            refine ⟨_, rfl, a, od, rfl, .inl ⟨ks, upd_same, fun D nD => lc_it (D := D) walk_keys (PK (upd H a (.frz od (.dK ks))) D [] (kws.map fun p => !isNameK p.1)) (PK.zero nD) (fun i H' _ p => p.1 _ _ upd_same) ?_ ?_⟩⟩
            · rintro i x H3 H4 hi p ⟨rfl, k, vv, hk, rfl⟩
              have hmem : (some k, vv) ∈ ks.map (fun p : Key × V => (some p.1, p.2)) := List.mem_map.mpr ⟨(k, vv), List.mem_of_getElem? hk, rfl⟩
              have hsm := hkv.sm _ hmem
              have hkw : (kws.map (·.1))[i]? = some (some k) := by
                rw [← hkv.keys, List.map_map, List.getElem?_map, hk]
                rfl
              have hb : (kws.map fun p => !isNameK p.1)[i]? = some (!isNameW (keyW k)) := by
                have e3 : (kws.map fun p => !isNameK p.1) = (kws.map (·.1)).map fun k => !isNameK k := by rw [List.map_map]; rfl
                rw [e3, List.getElem?_map, hkw]
                cases k <;> rfl
              have hisk : Is H4 (kV k) (keyW k) := by
                cases k with
                | inl i => exact .int i
                | inr x => exact .str x hsm.1 hsm.2
              refine ⟨rfl, _, rfl, kV k, keyW k, rfl, hisk, fun H5 s5 => ⟨_, rfl, ?_⟩⟩
              cases e4 : isNameW (keyW k) with
              | true =>
                rw [e4] at hb
                exact iteF (p.no s5 hb)
              | false =>
                rw [e4] at hb
                exact iteT ⟨_, rfl, p.yes s5 nD (by omega) hb⟩
            · intro H3 p
              have hl : (kws.map fun p => !isNameK p.1).length = ks.length := by rw [List.length_map, lk]
              rw [← hl] at p
              have hfz := p.1 _ _ upd_same
              obtain ⟨acc, hD, hacc⟩ := p.all
              refine ⟨hfz, ?_⟩
              have s1 : Same H (upd H3 a (.dK ks)) := same_unlock hd p.1
              have hD1 : (upd H3 a (.dK ks)) D = some (.lst acc) := by
                rw [upd_ne fun z => ?_]
                · exact hD
                · rw [z, hfz] at hD
                  cases hD
              generalize upd H3 a (.dK ks) = H1 at s1 hD1 ⊢
              refine ⟨by show 0 ≤ sizeLine; decide, fun n0 nn => ⟨D, n0, acc, rfl, rfl, same_new nn _ _ hD1, upd_same, _, rfl, ?_⟩⟩
              rw [hacc]
              have s2 : Same H (upd H1 n0 (.lst [])) := s1.trans (same_new nn)
              have s3 : Same H1 (upd H1 n0 (.lst [])) := same_new nn
              generalize upd H1 n0 (.lst []) = H2 at s2 s3 ⊢
              have eq1 : (kws.map fun p => !isNameK p.1).any id = !kws.all fun p => isNameK p.1 := by
                rw [List.any_map, List.not_all_eq_any_not]
                rfl
              rw [eq1]
              cases e3 : kws.all fun p => isNameK p.1 with
              | false => exact iteT ⟨by show 1 ≤ sizeLine; decide, fun p np => retS (noD (by rw [ev, e3]; rfl)) H2 s2 p np⟩
              | true =>
                have hD0 : isDctN 1 3 (.dct kws) = true := by rw [ev, e3]; rfl
                refine iteF ?_
                refine ⟨_, rfl, a, ks, rfl, s2 _ _ hd, fun lp nlp => ?_⟩
                have s4 : Same H (upd H2 lp (.lst (ks.map (·.2)))) := s2.trans (same_new nlp)
                have hlp : (upd H2 lp (.lst (ks.map (·.2)))) lp = some (.lst (ks.map (·.2))) := upd_same
                generalize upd H2 lp (.lst (ks.map (·.2))) = H4 at s4 hlp ⊢
                have at_ : ∀ {i : Nat} {x : V}, (ks.map (·.2))[i]? = some x → ∃ k wi, kws[i]? = some (k, wi) ∧ Is H x wi := fun {i x} h => by
                  rw [List.getElem?_map] at h
                  obtain ⟨⟨k, y⟩, h1, h2⟩ := Option.map_eq_some_iff.mp h
                  cases h2
                  obtain ⟨wi, h3, h4⟩ := hkv.val h1
                  exact ⟨_, wi, h3, h4⟩
                have lvl : (ks.map (·.2)).length = kws.length := by rw [List.length_map, lk]
                have c1 := of_decide_eq_true e1
                have c2 := of_decide_eq_true e2
                have neK : kws ≠ [] := fun z => by rw [z] at c1; simp at c1
                -- the lines' lengths
                refine ⟨_, rfl, lp, rfl, ⟨_, SqL.of hlp⟩, fun D2 nD2 => lc_it (D := D2) walk_list (PK H4 D2 [] (kws.map fun p => !lineOk p.2)) (PK.zero nD2) (fun i H' _ p => SqL.of (p.1 _ _ hlp)) ?_ ?_⟩
                · rintro i x H5 H6 hi p ⟨rfl, hx⟩
                  obtain ⟨k, wi, hwi, his⟩ := at_ hx
                  rw [lvl] at hi
                  have hb : (kws.map fun p => !lineOk p.2)[i]? = some (!lineOk wi) := by rw [List.getElem?_map, hwi]; rfl
                  have his6 := (his.same s4).same p.1
                  refine ⟨rfl, _, rfl, by show 2 ≤ sizeLine; decide, fun t nt => ?_⟩
                  refine ⟨x, t, _, .type (tyN wi), [.type "list", .type "tuple"], isSeq wi, rfl, upd_same, .cons (.ty _) (.cons (.ty _) .nil), (his6.same (same_new nt)).ty, ?_, _, rfl, ?_⟩
                  · refine kitAny_cons (b := isTy "list" wi) (Is.kit (by decide)) (fun e => kitAny_cons (b := isTy "tuple" wi) (Is.kit (by decide)) (fun e2 => ?_) (fun e2 => ?_)) (fun e => ?_)
                    · unfold isSeq; rw [e, e2]; exact kitAny_nil
                    · unfold isSeq; rw [e, e2]; rfl
                    · unfold isSeq; rw [e]; rfl
                  · have s7 := same_new (o := .tup [V.ty "list", V.ty "tuple"]) nt
                    cases e5 : isSeq wi with
                    | false =>
                      have z : lineOk wi = false := by unfold lineOk; rw [e5]; rfl
                      rw [z] at hb
                      exact iteT (iteT ⟨_, rfl, p.yes s7 nD2 (by omega) hb⟩)
                    | true =>
                      obtain ⟨b, ys, rfl, hsq, _, hall⟩ := (his6.same s7).seq e5
                      have el : (ys.length : Int) = lenW wi := congrArg Int.ofNat hall.len
                      refine iteF ⟨_, rfl, b, ys, rfl, hsq.two, _, _, rfl, rfl, _, rfl, ?_⟩
                      rw [el]
                      cases e6 : decide ((1 : Int) ≤ lenW wi) with
                      | false =>
                        have z : lineOk wi = false := by unfold lineOk; rw [e5, e6]; rfl
                        rw [z] at hb
                        exact iteF ⟨_, rfl, iteT ⟨_, rfl, p.yes s7 nD2 (by omega) hb⟩⟩
                      | true =>
                        refine iteT ⟨_, _, rfl, rfl, _, rfl, ?_⟩
                        cases e7 : decide (lenW wi ≤ 4) with
                        | false =>
                          have z : lineOk wi = false := by unfold lineOk; rw [e5, e6, e7]; rfl
                          rw [z] at hb
                          exact iteT ⟨_, rfl, p.yes s7 nD2 (by omega) hb⟩
                        | true =>
                          have z : lineOk wi = true := by unfold lineOk; rw [e5, e6, e7]; rfl
                          rw [z] at hb
                          exact iteF (p.no s7 hb)
                · intro H5 p
                  have hl : (kws.map fun p => !lineOk p.2).length = (ks.map (·.2)).length := by rw [List.length_map, lvl]
                  rw [← hl] at p
                  obtain ⟨acc, hD, hacc⟩ := p.all
                  refine ⟨by show 0 ≤ sizeLine; decide, fun n0 nn => ⟨D2, n0, acc, rfl, rfl, same_new nn _ _ hD, upd_same, _, rfl, ?_⟩⟩
                  rw [hacc]
                  have s6 : Same H4 (upd H5 n0 (.lst [])) := p.1.trans (same_new nn)
                  generalize upd H5 n0 (.lst []) = H6 at s6 ⊢
                  have eq1 : (kws.map fun p => !lineOk p.2).any id = !kws.all fun p => lineOk p.2 := by
                    rw [List.any_map, List.not_all_eq_any_not]
                    rfl
                  rw [eq1]
                  have sH6 := s4.trans s6
                  cases e8 : kws.all fun p => lineOk p.2 with
                  | false =>
                    have no : movesW (.dct kws) = false := by
                      cases z : movesW (.dct kws) with
                      | false => rfl
                      | true =>
                        rw [List.all_eq_true.mpr fun p hp => (moves_in z p hp).1] at e8
                        cases e8
                    exact iteT ⟨by show 1 ≤ sizeLine; decide, fun p np => retS no H6 sH6 p np⟩
                  | true =>
                    refine iteF ?_
                    have hl6 := s6 _ _ hlp
                    -- the first line
                    obtain ⟨w0, hw0⟩ : ∃ p0, kws[0]? = some p0 := ⟨kws[0]'(by omega), List.getElem?_eq_getElem _⟩
                    obtain ⟨k0, w0⟩ := w0
                    obtain ⟨x0, hx0⟩ : ∃ x0, (ks.map (·.2))[0]? = some x0 := ⟨(ks.map (·.2))[0]'(by omega), List.getElem?_eq_getElem _⟩
                    obtain ⟨_, w0', hw0', his0⟩ := at_ hx0
                    rw [hw0] at hw0'
                    cases hw0'
                    have ok0 := List.all_eq_true.mp e8 _ (List.mem_of_getElem? hw0)
                    have seqK : ∀ {w : W}, lineOk w = true → isSeq w = true := fun {w} h => (Bool.and_eq_true_iff.mp (show (isSeq w && _) = true from h)).1
                    obtain ⟨b0, ys0, rfl, hsq0, _, hall0⟩ := (his0.same sH6).seq (seqK ok0)
                    refine ⟨_, rfl, lp, _, 0, _, rfl, rfl, SqL.of hl6, at_of (j := 0) rfl hx0, b0, ys0, rfl, hsq0.two, ?_⟩
                    have em0 : (ys0.length : Int) = lenW w0 := congrArg Int.ofNat hall0.len
                    rw [em0]
                    generalize hm : lenW w0 = m
                    have mb : 1 ≤ m ∧ m ≤ 4 := by
                      obtain ⟨z1, z2⟩ := Bool.and_eq_true_iff.mp (Bool.and_eq_true_iff.mp (show (isSeq w0 && (decide (1 ≤ lenW w0) && decide (lenW w0 ≤ 4))) = true from ok0)).2
                      have a1 := of_decide_eq_true z1
                      have a2 := of_decide_eq_true z2
                      omega
                    have noM : ∀ {p : Option Key × W}, p ∈ kws → (lenW p.2 = m ∧ (items p.2).all (withinW 0 (m - 1)) = true → False) → movesW (.dct kws) = false := fun {p} hp h => by
                      cases z : movesW (.dct kws) with
                      | false => rfl
                      | true =>
                        have a1 := (moves_in z _ (List.mem_of_getElem? hw0)).2.1
                        have a2 := (moves_in z p hp).2
                        have a3 : mostW kws = m := by rw [← a1]; exact hm
                        rw [a3] at a2
                        exact (h a2).elim
                    refine ⟨_, rfl, lp, rfl, ⟨_, SqL.of hl6⟩, for_list (xs := ks.map (·.2)) (fun i σ H7 => ∃ y4 y5 y6, σ = [some (.ref a), some g, some (.ref lp), some (.int m), y4, y5, y6] ∧ Same H6 H7 ∧ ∀ p ∈ kws.take i, lenW p.2 = m ∧ (items p.2).all (withinW 0 (m - 1)) = true)
                      ⟨_, _, _, rfl, Same.refl _, fun p hp => by cases hp⟩ (fun i σ H7 _ ⟨_, _, _, _, s7, _⟩ => SqL.of (s7 _ _ hl6)) ?_ ?_⟩
                    · rintro i x σ H7 hx ⟨y4, y5, y6, rfl, s7, hgood⟩
                      obtain ⟨k, wi, hwi, his⟩ := at_ hx
                      have hmem := List.mem_of_getElem? hwi
                      obtain ⟨b, ys, rfl, hsq, hyz, hall⟩ := (his.same (sH6.trans s7)).seq (seqK (List.all_eq_true.mp e8 _ hmem))
                      have el : (ys.length : Int) = lenW wi := congrArg Int.ofNat hall.len
                      refine ⟨_, rfl, b, ys, rfl, hsq.two, _, rfl, rfl, _, rfl, ?_⟩
                      rw [el]
                      have ec : decide (V.int (lenW wi) = V.int m) = decide (lenW wi = m) := by
                        by_cases h : lenW wi = m
                        · rw [decide_eq_true h, decide_eq_true (by rw [h])]
                        · rw [decide_eq_false h, decide_eq_false fun z => h (V.int.inj z)]
                      rw [ec]
                      cases e9 : decide (lenW wi = m) with
                      | false => exact iteT (iteT ⟨by show 1 ≤ sizeLine; decide, fun p np => retS (noM hmem fun z => of_decide_eq_false e9 z.1) H7 (sH6.trans s7) p np⟩)
                      | true =>
                        have e9' := of_decide_eq_true e9
                        refine iteF ?_
                        obtain ⟨J, wk, src⟩ := walk_seq (K := K) (te := tVar 4) (σ := [some (.ref a), some g, some (.ref lp), some (.int m), some (.ref b), y5, y6]) hsq (fun Q h => ⟨_, rfl, h⟩)
                        refine src _ fun D3 nD3 => lc_it (D := D3) wk (PK H7 D3 [] ((items wi).map fun w => !withinW 0 (m - 1) w)) (PK.zero nD3) (fun _ _ _ p => p.1) ?_ ?_
                        · rintro i2 x H8 H9 hi2 p ⟨rfl, hx2⟩
                          obtain ⟨w2, hw2, his2⟩ := hall.get hx2
                          have hb : ((items wi).map fun w => !withinW 0 (m - 1) w)[i2]? = some (!withinW 0 (m - 1) w2) := by rw [List.getElem?_map, hw2]; rfl
                          refine ⟨rfl, _, rfl, _, rfl, x, w2, m, rfl, his2.same p.1, _, rfl, ?_⟩
                          cases e10 : withinW 0 (m - 1) w2 with
                          | true =>
                            rw [e10] at hb
                            exact iteF (p.no (Same.refl _) hb)
                          | false =>
                            rw [e10] at hb
                            exact iteT ⟨_, rfl, p.yes (Same.refl _) nD3 (by omega) hb⟩
                        · intro H8 p
                          have hl2 : ((items wi).map fun w => !withinW 0 (m - 1) w).length = ys.length := by rw [List.length_map, hall.len]
                          rw [← hl2] at p
                          obtain ⟨acc, hD3, hacc⟩ := p.all
                          refine ⟨by show 0 ≤ sizeLine; decide, fun n1 nn1 => ⟨D3, n1, acc, rfl, rfl, same_new nn1 _ _ hD3, upd_same, _, rfl, ?_⟩⟩
                          rw [hacc]
                          have s9 : Same H7 (upd H8 n1 (.lst [])) := p.1.trans (same_new nn1)
                          generalize upd H8 n1 (.lst []) = H9 at s9 ⊢
                          have eq2 : ((items wi).map fun w => !withinW 0 (m - 1) w).any id = !(items wi).all (withinW 0 (m - 1)) := by
                            rw [List.any_map, List.not_all_eq_any_not]
                            rfl
                          rw [eq2]
                          cases e11 : (items wi).all (withinW 0 (m - 1)) with
                          | false => exact iteT ⟨by show 1 ≤ sizeLine; decide, fun p np => retS (noM hmem fun z => by rw [e11] at z; cases z.2) H9 ((sH6.trans s7).trans s9) p np⟩
                          | true =>
                            refine iteF ⟨_, _, _, rfl, s7.trans s9, fun p hp => ?_⟩
                            rw [List.take_add_one, hwi] at hp
                            rcases List.mem_append.mp hp with z | z
                            · exact hgood p z
                            · rw [List.mem_singleton.mp z]
                              exact ⟨e9', e11⟩
                    · rintro σ H7 ⟨y4, y5, y6, rfl, s7, hgood⟩
                      rw [lvl, List.take_length] at hgood
                      obtain ⟨mv, mm⟩ := moves_of hD0 neK (fun p hp => List.all_eq_true.mp e8 p hp) hgood
                      have sH7 := sH6.trans s7
                      have mN : ((manyW (.dct kws) : Nat) : Int) = m := by
                        show (((mostW kws).toNat : Nat) : Int) = m
                        rw [mm]
                        omega
                      have retG : goodW m ug = false → ∀ Hc, Same H Hc → ∀ p, Hc p = none → Q (.ref p) (upd Hc p (.lst [.str "good"])) := fun e Hc sc p np => by
                        have z := q p (upd Hc p (.lst [.str "good"])) (same_own (sc.free np) sc) (sc.free np)
                        unfold dueL at z
                        rw [if_pos mv, mN, if_neg (by rw [e]; decide)] at z
                        exact z upd_same
                      have retN : goodW m ug = true → ∀ Hc, Same H Hc → ∀ p, Hc p = none → Q (.ref p) (upd Hc p (.lst [])) := fun e Hc sc p np => by
                        have z := q p (upd Hc p (.lst [])) (same_own (sc.free np) sc) (sc.free np)
                        unfold dueL at z
                        rw [if_pos mv, mN, if_pos e] at z
                        exact z upd_same
                      have hg7 := hg.same sH7
                      refine ⟨_, rfl, by show 2 ≤ sizeLine; decide, fun t nt => ?_⟩
                      refine ⟨g, t, _, .type (tyN ug), [.type "list", .type "tuple"], isSeq ug, rfl, upd_same, .cons (.ty _) (.cons (.ty _) .nil), (hg7.same (same_new nt)).ty, ?_, _, rfl, ?_⟩
                      · refine kitAny_cons (b := isTy "list" ug) (Is.kit (by decide)) (fun e => kitAny_cons (b := isTy "tuple" ug) (Is.kit (by decide)) (fun e2 => ?_) (fun e2 => ?_)) (fun e => ?_)
                        · unfold isSeq; rw [e, e2]; exact kitAny_nil
                        · unfold isSeq; rw [e, e2]; rfl
                        · unfold isSeq; rw [e]; rfl
                      · have s8 := sH7.trans (same_new (o := .tup [V.ty "list", V.ty "tuple"]) nt)
                        have hg8 := hg.same s8
                        generalize upd H7 t (.tup [V.ty "list", V.ty "tuple"]) = H8 at s8 hg8 ⊢
                        cases e12 : isSeq ug with
                        | false => exact iteT ⟨by show 1 ≤ sizeLine; decide, fun p np => retG (by unfold goodW statesW; rw [e12]; rfl) H8 s8 p np⟩
                        | true =>
                          refine iteF ?_
                          obtain ⟨b, ys, rfl, hsq, hyz, hall⟩ := hg8.seq e12
                          obtain ⟨J, wk, src⟩ := walk_seq (K := K) (te := tVar 1) (σ := [some (.ref a), some (.ref b), some (.ref lp), some (.int m), y4, y5, y6]) hsq (fun Q h => ⟨_, rfl, h⟩)
                          refine src _ fun D3 nD3 => lc_it (D := D3) wk (PK H8 D3 [] ((items ug).map fun w => !withinW 0 (m - 1) w)) (PK.zero nD3) (fun _ _ _ p => p.1) ?_ ?_
                          · rintro i2 x H9 H10 hi2 p ⟨rfl, hx2⟩
                            obtain ⟨w2, hw2, his2⟩ := hall.get hx2
                            have hb : ((items ug).map fun w => !withinW 0 (m - 1) w)[i2]? = some (!withinW 0 (m - 1) w2) := by rw [List.getElem?_map, hw2]; rfl
                            refine ⟨rfl, _, rfl, _, rfl, x, w2, m, rfl, his2.same p.1, _, rfl, ?_⟩
                            cases e10 : withinW 0 (m - 1) w2 with
                            | true =>
                              rw [e10] at hb
                              exact iteF (p.no (Same.refl _) hb)
                            | false =>
                              rw [e10] at hb
                              exact iteT ⟨_, rfl, p.yes (Same.refl _) nD3 (by omega) hb⟩
                          · intro H9 p
                            have hl2 : ((items ug).map fun w => !withinW 0 (m - 1) w).length = ys.length := by rw [List.length_map, hall.len]
                            rw [← hl2] at p
                            obtain ⟨acc, hD3, hacc⟩ := p.all
                            refine ⟨by show 0 ≤ sizeLine; decide, fun n1 nn1 => ⟨D3, n1, acc, rfl, rfl, same_new nn1 _ _ hD3, upd_same, _, rfl, ?_⟩⟩
                            rw [hacc]
                            have s9 : Same H8 (upd H9 n1 (.lst [])) := p.1.trans (same_new nn1)
                            generalize upd H9 n1 (.lst []) = H10 at s9 ⊢
                            have eq2 : ((items ug).map fun w => !withinW 0 (m - 1) w).any id = !(items ug).all (withinW 0 (m - 1)) := by
                              rw [List.any_map, List.not_all_eq_any_not]
                              rfl
                            rw [eq2]
                            have s10 := s8.trans s9
                            cases e13 : (items ug).all (withinW 0 (m - 1)) with
                            | false => exact iteT ⟨by show 1 ≤ sizeLine; decide, fun p np => retG (by unfold goodW statesW; rw [e12, e13]; rfl) H10 s10 p np⟩
                            | true =>
                              refine iteF ?_
                              have hx : ys = (intsW ug).map V.int := ints_all hall e13
                              subst hx
                              rw [List.length_map] at hyz
                              have hsq10 := (hsq.same s9).two (K := K)
                              refine ⟨_, rfl, b, intsW ug, rfl, hsq10, by omega, fun n hn => ⟨_, rfl, b, _, rfl, hsq10, rfl, _, rfl, ?_⟩⟩
                              have hgw : goodW m ug = (intsW ug).all fun k => decide ((intsW ug).count k = 1) := by unfold goodW statesW; rw [e12, e13]; rfl
                              rw [List.length_map]
                              by_cases h : n = (intsW ug).length
                              · rw [decide_eq_true (by rw [h])]
                                exact iteF ⟨by show 0 ≤ sizeLine; decide, fun p np => retN (by rw [hgw]; exact (count_nodup _).mpr (hn.mp h)) H10 s10 p np⟩
                              · rw [decide_eq_false fun z => h (by have y := V.int.inj z; omega)]
                                refine iteT ⟨by show 1 ≤ sizeLine; decide, fun p np => retG ?_ H10 s10 p np⟩
                                cases z : goodW m ug with
                                | false => rfl
                                | true =>
                                  rw [hgw] at z
                                  exact absurd (hn.mpr ((count_nodup _).mp z)) h
    · rw [e1]
      exact iteT ⟨by show 1 ≤ sizeLine; decide, fun p np => retS e2 H (Same.refl _) p np⟩
end
end Kn
-- part Nd
set_option maxHeartbeats 4000000
/-! A dict that has the key None: stored, asked by isinstance and len, its keys walked. -/
namespace L2
open PySem PySem.Spec PyProof.Rows
def kN : Option Key → V
  | none => .non
  | some k => kV k
/-- what the object says: these keys, in their order -/
structure NdF (P : Program) (w : World) (o : Obj) (ks : List (Option Key)) : Prop where
  ex : ∃ (vs : List (Option Key × Value)) (es : Array DictEntry) (ep : Nat), vs.map (·.1) = ks ∧ vs.length ≤ sizeLine ∧ o.ExactDict ∧ o.data = .dict es ep ∧ KeysOf (noneKind P w) es ∧ Pairs (noneKind P w) es.toList vs ∧ (vs.map (·.1)).Nodup
def ndO (a : Addr) (o : Obj) : HO := .ext fun h => h.get? a = some o
def NdAt (P : Program) (w : World) (H : Hp) (a : Addr) (ks : List (Option Key)) : Prop := ∃ o, H a = some (ndO a o) ∧ (a == sysModules) = false ∧ NdF P w o ks
theorem NdAt.same {P : Program} {w : World} {H H' : Hp} {a : Addr} {ks : List (Option Key)} (h : NdAt P w H a ks) (s : ∀ b o, H b = some o → H' b = some o) : NdAt P w H' a ks := by
  obtain ⟨o, e, r⟩ := h
  exact ⟨o, s _ _ e, r⟩
theorem kN_rel {k : Option Key} {v : Value} (h : nkIs k v = true) : RelV (kN k) v := by
  cases k with
  | none => exact nk_none h
  | some k => exact relV_key h
section
variable {X : Cx} {pins : List (Addr × Obj)} {σ : St} {H : Hp} {s : Shared} {a : Addr} {ks : List (Option Key)} {o : Obj}
theorem nd_get (I : Inv X pins σ H s) (h : H a = some (ndO a o)) : s.heap.get? a = some o := (I.hok _ _ h).1
theorem nd_at (I : Inv X pins σ H s) (h : H a = some (ndO a o)) (f : NdF X.prog X.w o ks) : ∃ (vs : List (Option Key × Value)) (ep : Nat) (es : Array DictEntry), vs.map (·.1) = ks ∧ vs.length ≤ sizeLine ∧ o.data = .dict es ep ∧ es.size = vs.length ∧ o.ExactDict ∧ s.heap.DictAt (noneKind X.prog X.w) a vs ep := by
  obtain ⟨vs, es, ep, e1, e2, e3, e4, e5, e6, e7⟩ := f.ex
  refine ⟨vs, ep, es, e1, e2, e4, ?_, e3, o, es, nd_get I h, e3, e4, e5, e6, e7⟩
  rw [← e6.length, Array.length_toList]
/-- isinstance -/
def rIsN (K : PySem.W.Frag) (P : Program) (w : World) : List V → Hp → VK → Prop := fun xs H Q => ∃ (a : Addr) (ks : List (Option Key)) (c : V) (cv : Value) (b : Bool), xs = [.ref a, c] ∧ NdAt P w H a ks ∧ ClsV c cv ∧ PySem.W.kitOne K (.type "dict") cv = some b ∧ Q (.bl b) H
theorem call_isN : CallR X (.builtin "isinstance") (rIsN X.K X.prog X.w) := by
  rintro pins s σ H xs us Q I r ⟨a, ks, c, cv, b, rfl, ⟨o, ha, _, f⟩, hc, e, q⟩
  obtain ⟨u1, u2, rfl, r1, r2⟩ := vals2 r
  cases (show u1 = Value.ref a from r1)
  cases hc.eq r2
  obtain ⟨vs, ep, es, _, _, _, _, hx, _⟩ := nd_at I ha f
  exact PySem.W.kia_one PySem.W.kitx_dict I.kIn ⟨o, nd_get I ha, hx.1⟩ e (fun z => nomatch z) fun tk => ⟨.bl b, H, I.tok tk, rfl, q⟩
/-- len -/
def rLenN (P : Program) (w : World) : List V → Hp → VK → Prop := fun xs H Q => ∃ (a : Addr) (ks : List (Option Key)), xs = [.ref a] ∧ NdAt P w H a ks ∧ Q (.int (ks.length : Nat)) H
theorem call_lenN : CallR X (.builtin "len") (rLenN X.prog X.w) := by
  rintro pins s σ H xs us Q I r ⟨a, ks, rfl, ⟨o, ha, hd, f⟩, q⟩
  obtain ⟨u, rfl, ru⟩ := vals1 r
  cases (show u = Value.ref a from ru)
  obtain ⟨vs, ep, es, e1, e2, _, _, _, dat⟩ := nd_at I ha f
  have hl : ks.length = vs.length := by rw [← e1, List.length_map]
  rw [hl] at q
  exact call_len_dict hd dat.dictOf (by rw [sizeLine_eq] at e2; omega) ⟨.int (vs.length : Nat), H, I.tok _, ⟨_, rfl⟩, q⟩
/-- the keys, one after the other -/
def ItN (P : Program) (w : World) (a : Addr) (o : Obj) (ks : List (Option Key)) : It :=
  ⟨fun i H => H a = some (ndO a o) ∧ NdF P w o ks ∧ i < ks.length, fun i H x H' => H' = H ∧ ∃ k, ks[i]? = some k ∧ x = kN k, fun i H => H a = some (ndO a o) ∧ NdF P w o ks ∧ ks.length ≤ i⟩
theorem turn_N {P : Program} {w : World} {K : PySem.W.Frag} {tg : Expr} {es : Array DictEntry} {ep : Nat} (it : Addr) (hod : o.data = .dict es ep) : Turn P w K tg (ItN P w a o ks) [it] it (fun i h => h.IsKeyIter it a i ks.length ep) where
  mem := by simp
  obj := fun i h st b hb => by
    obtain rfl : b = it := by simpa using hb
    obtain ⟨oi, e, c, dd⟩ := st
    exact ⟨oi, e, fun v z => by rw [dd] at z; cases z⟩
  keep := fun i h h' st k => by
    obtain ⟨oi, e, r⟩ := st
    exact ⟨oi, k it (by simp) oi e, r⟩
  item := by
    rintro X rfl rfl rfl hc i pins s σ H E I hf st ⟨ha, f, hi⟩
    obtain ⟨f0, f1, f2, f3, f4, f5⟩ := hf it (by simp)
    obtain ⟨vs, ep', es', e1, e2, e3, e4, hx, dat⟩ := nd_at I ha f
    obtain ⟨rfl, rfl⟩ := dict_ep hod e3
    have hl : ks.length = vs.length := by rw [← e1, List.length_map]
    obtain ⟨⟨k, v⟩, hkv⟩ : ∃ p, vs[i]? = some p := ⟨vs[i]'(by omega), List.getElem?_eq_getElem (by omega)⟩
    have hk : ks[i]? = some k := by rw [← e1, List.getElem?_map, hkv]; rfl
    rw [hl] at st
    refine wpAny_pyNext_dict_item st dat hkv fun key g hkey st' sb => ?_
    have I1 : Inv X pins σ H { s with heap := g } := I.turned (t' := s.toks) (fun b ob hb e => (sb.2 b hb).trans e) f0 f1 f3 f4 f5
    obtain ⟨oi, e, c, dd⟩ := id st'
    refine ⟨key, rfl, go_of (s := { s with heap := g }) e c dd (by decide) ⟨kN k, H, I1, kN_rel hkey, ⟨rfl, k, hk, rfl⟩, ?_, fun b hb => (hf b hb).1⟩⟩
    show g.IsKeyIter it a (i + 1) ks.length _
    rw [hl]
    exact st'
  done := by
    rintro X rfl rfl rfl hc i pins s σ H E I hf st ⟨ha, f, hi⟩
    obtain ⟨f0, f1, f2, f3, f4, f5⟩ := hf it (by simp)
    obtain ⟨vs, ep', es', e1, e2, e3, e4, hx, dat⟩ := nd_at I ha f
    obtain ⟨rfl, rfl⟩ := dict_ep hod e3
    have hl : ks.length = vs.length := by rw [← e1, List.length_map]
    exact next_key_end (es := es') (I.ok.hd hc) st (nd_get I ha) e3 (by omega) hi fun g eb => ⟨rfl, I.turned (t' := s.toks) (fun b ob hb e => eb b ob hb e) f0 f1 f3 f4 f5⟩
  self := fun A i s Q E st h => wpAny_pyIter_keyiter st h
def iKeyN (P : Program) (w : World) (td : TE) : TI := fun σ H R => td σ H fun x H1 => ∃ a o ks, x = .ref a ∧ H1 a = some (ndO a o) ∧ (a == sysModules) = false ∧ NdF P w o ks ∧ R (ItN P w a o ks) H1
theorem pi_keyN {tg e : Expr} {td : TE} (he : PE X e td) : PI X tg e (iKeyN X.prog X.w td) := by
  constructor
  intro pins s σ H R I h
  refine thn (he.run pins s σ H _ I h) ?_
  rintro u s1 ⟨x, H1, I1, rx, a, o, ks, rfl, ha, hs, f, q⟩
  cases (show u = Value.ref a from rx)
  obtain ⟨vs, ep, es, e1, e2, e3, e4, hx, dat⟩ := nd_at I1 ha f
  have hl : es.size = ks.length := by rw [e4, ← e1, List.length_map]
  refine iter_keys hs (nd_get I1 ha) hx e3 (pi_one (tk := s1.toks) I1 _ (turn_N _ e3) ⟨_, Heap.get?_push_size _ rfl, rfl, ?_⟩ q)
  rw [hl] <;> rfl
theorem walk_N {P : Program} {w : World} : Walk (ItN P w a o ks) ks.length (fun H => H a = some (ndO a o) ∧ NdF P w o ks) (fun i H x H' => H' = H ∧ ∃ k, ks[i]? = some k ∧ x = kN k) :=
  ⟨fun _ _ hi q => ⟨q.1, q.2, hi⟩, fun _ q => ⟨q.1, q.2, Nat.le_refl _⟩, fun _ _ _ _ _ _ y => y⟩
end
/-! ### d[None] = v -/
theorem keys_lift {P : Program} {w : World} {h : Heap} {a : Addr} {vs : List (Key × Value)} (d : h.DictOf (mixKind P w) a vs) : h.DictOf (noneKind P w) a (vs.map fun p => (some p.1, p.2)) := by
  obtain ⟨o, es, ep, ho, hx, hdt, hk, hp, hn⟩ := d
  refine ⟨o, es, ep, ho, hx, hdt, fun e he => ?_, ?_, ?_⟩
  · obtain ⟨k, h1, h2⟩ := hk e he
    exact ⟨some k, h1, h2⟩
  · clear hn hk hdt
    generalize es.toList = l at hp
    induction hp with
    | nil => exact .nil
    | cons h1 h2 _ ih => exact .cons h1 h2 ih
  · rw [List.map_map]
    have e : (vs.map ((fun x : Option Key × Value => x.1) ∘ fun p : Key × Value => (some p.1, p.2))) = (vs.map (·.1)).map some := by rw [List.map_map]; rfl
    rw [e]
    exact List.Pairwise.map some (fun x y h z => h (Option.some.inj z)) hn
theorem stored_in {κ : Type} [DecidableEq κ] (vs : List (κ × Value)) (k : κ) (v : Value) : k ∈ (stored vs k v).map (·.1) ∧ (∀ j ∈ (stored vs k v).map (·.1), j = k ∨ j ∈ vs.map (·.1)) ∧ (stored vs k v).length ≤ vs.length + 1 := by
  unfold stored
  split
  · rename_i h
    have e : ((vs.map fun kv => if kv.1 = k then (kv.1, v) else kv).map (·.1)) = vs.map (·.1) := by
      rw [List.map_map]
      refine List.map_congr_left fun p _ => ?_
      show (if p.1 = k then (p.1, v) else p).1 = p.1
      split <;> rfl
    obtain ⟨p, hp, q⟩ := List.any_eq_true.mp h
    rw [e]
    refine ⟨List.mem_map.mpr ⟨p, hp, of_decide_eq_true q⟩, fun j hj => .inr hj, by rw [List.length_map]; exact Nat.le_succ _⟩
  · rw [List.map_append]
    refine ⟨List.mem_append.mpr (.inr (List.mem_singleton.mpr rfl)), fun j hj => ?_, by rw [List.length_append]; exact Nat.le_refl _⟩
    rcases List.mem_append.mp hj with z | z
    · exact .inr z
    · exact .inl (List.mem_singleton.mp z)
section
variable {X : Cx} {tv td ty : TE} {o i value : Expr} {pos pos' : Pos}
def sDPutN (P : Program) (w : World) (td ty tv : TE) : TS := fun D σ H => tv σ H fun v H1 => td σ H1 fun x H2 => ty σ H2 fun y H3 => ∃ a, x = .ref a ∧
  ((∃ H4, DPut H3 a y v H4 ∧ D.nx σ H4) ∨ ∃ kvs, y = .non ∧ H3 a = some (.dK kvs) ∧ kvs.length < sizeLine ∧ ∀ (o : Obj) (ks : List (Option Key)), (a == sysModules) = false → NdF P w o ks → none ∈ ks → (∀ k, some k ∈ ks → k ∈ kvs.map (·.1)) → ks.length ≤ kvs.length + 1 → D.nx σ (upd H3 a (ndO a o)))
theorem ps_dputN (hu : X.A.units + 1 < cLine) (ho : PE X o td) (hi : PE X i ty) (hv : PE X value tv) (hs : swapsWith value (some (.Subscript o i pos')) pos.line X.env = pure false) :
    PS X (.Assign [.Subscript o i pos'] value pos) (sDPutN X.prog X.w td ty tv) := by
  constructor
  intro pins s σ H D I h
  refine wpAny_Assign_Subscript (thn (hv.run pins s σ H _ I h) ?_) hs
  rintro r s1 ⟨v, H1, I1, rv, q1⟩
  refine thn (ho.run pins s1 σ H1 _ I1 q1) ?_
  rintro u s2 ⟨x, H2, I2, rx, q2⟩
  refine thn (hi.run pins s2 σ H2 _ I2 q2) ?_
  rintro iv s3 ⟨y, H3, I3, ry, a, rfl, q3⟩
  cases (show u = Value.ref a from rx)
  rcases q3 with ⟨H4, g, q3⟩ | ⟨kvs, rfl, ha, hz, q3⟩
  · exact d_setItem hu I3 g ry rv fun s4 I4 => ⟨σ, H4, I4, q3⟩
  · cases (show iv = Value.none from ry)
    obtain ⟨z, lo, vs, rel, dof⟩ := dk_of I3.hok ha
    have lk : kvs.length = vs.length := rel.length
    have lm : (vs.map fun p => ((some p.1 : Option Key), p.2)).length = vs.length := List.length_map _
    refine wpAny_setItem_pairs (hsz := by rw [lm]; omega) (knd := noneKind X.prog X.w) (k := none) (by rfl) (keys_lift dof) fun g dd sb => ?_
    obtain ⟨s1', s2', s3'⟩ := stored_in (vs.map fun p => ((some p.1 : Option Key), p.2)) none r
    obtain ⟨ob, es, ep, hob, hx, hdt, hk, hp, hn⟩ := dd
    have he : ∃ q, g.get? a = some q := ⟨ob, hob⟩
    refine ⟨σ, _, d_write I3 (by rw [ha]; exact True.intro) sb he (ob := ndO a ob) ⟨hob, ⟨ob, hob⟩, fun h1 h2 e st => st ob e⟩, q3 ob ((stored (vs.map fun p => ((some p.1 : Option Key), p.2)) none r).map (·.1)) lo ⟨_, es, ep, rfl, by rw [lm] at s3'; omega, hx, hdt, hk, hp, hn⟩ s1' (fun k hk2 => ?_) (by rw [List.length_map]; rw [lm] at s3'; omega)⟩
    rcases s2' _ hk2 with e | e
    · cases e
    · rw [List.map_map] at e
      obtain ⟨p, hp2, e3⟩ := List.mem_map.mp e
      have e4 : p.1 = k := Option.some.inj e3
      rw [KV.keys rel, ← e4]
      exact List.mem_map.mpr ⟨p, hp2, rfl⟩
end
end L2
-- part Ne
set_option maxHeartbeats 8000000
namespace L2
open PySem PySem.Spec PyProof.Rows
section
variable {P : Program} {w : World} {K : PySem.W.Frag} {mg : Str → Option Value} {base : Heap} {CX : CXT} {k : Nat} {f : Addr} {fd : FuncData} {ps : List Str} {sp1 sp2 : Sp}
def spOr (a b : Sp) : Sp := fun vs H Q E => a vs H Q E ∨ b vs H Q E
theorem fn_or (F1 : FnOk P w K mg base CX k f fd ps sp1) (F2 : FnOk P w K mg base CX k f fd ps sp2) : FnOk P w K mg base CX k f fd ps (spOr sp1 sp2) := by
  refine ⟨fun vs H Q E h => ?_, fun A outer s H args us vs Q E hr e0 hb hv h => ?_⟩
  · rcases h with h | h
    · exact F1.len vs H Q E h
    · exact F2.len vs H Q E h
  · rcases h with h | h
    · exact F1.run A outer s H args us vs Q E hr e0 hb hv h
    · exact F2.run A outer s H args us vs Q E hr e0 hb hv h
end
end L2
namespace Kn
open PySem PySem.Spec PyProof.Rows L2 Err
/-- a dict with the key None, its other keys short -/
structure NdOk (P : Program) (w : World) (H : Hp) (a : Addr) (ks : List (Option Key)) : Prop where
  at_ : NdAt P w H a ks
  non : none ∈ ks
  sm : ∀ k ∈ ks, kSm k
  few : ks.length ≤ 900
theorem NdOk.same {P : Program} {w : World} {H H' : Hp} {a : Addr} {ks : List (Option Key)} (h : NdOk P w H a ks) (s : Same H H') : NdOk P w H' a ks := ⟨h.at_.same s, h.non, h.sm, h.few⟩
def keyO : Option Key → W
  | none => .non
  | some k => keyW k
theorem keyO_is {H : Hp} {k : Option Key} (h : kSm k) : Is H (kN k) (keyO k) := by
  cases k with
  | none => exact .non
  | some k =>
    cases k with
    | inl i => exact .int i
    | inr x => exact .str x h.1 h.2
def spDctN2 (P : Program) (w : World) : Sp := fun vs H Q _ => ∃ a ks lo hi, vs = [.ref a, .int lo, .int hi] ∧ NdOk P w H a ks ∧ ∀ H', Same H H' → Q (.bl false) H'
def spMoves2 (P : Program) (w : World) : Sp := fun vs H Q _ => ∃ a ks, vs = [.ref a] ∧ NdOk P w H a ks ∧ ∀ H', Same H H' → Q (.bl false) H'
section
variable {P : Program} {w : World} {K : PySem.W.Frag} {mg : Str → Option Value} {base : Heap}
theorem kit_dict {K : PySem.W.Frag} : PySem.W.kitOne K (.type "dict") (.type "dict") = some true := by
  refine kit_ty ?_
  decide +kernel
theorem ok_dctN2 {f f1 : Addr} {fd fd1 : FuncData} (F : Fun K "is_dict_of_names" "is_dict_of_names" sDctN f fd) (G1 : FnOk P w K mg base CX0 1 f1 fd1 ["value"] spName) (k1 : PySem.W.keepIn K (.ref f1) = true) (b1 : Binds K fd1 ["value"] []) (g1 : mg "is_name" = some (.ref f1))
    (mi : mg "isinstance" = none) (m1 : mg "dict" = none) (ml : mg "len" = none) (ma : mg "all" = none) : FnOk P w K mg base CX0 2 f fd ["value", "fewest", "most"] (spDctN2 P w) := by
  have S := scDn
  refine F.ok S (fun vs H Q E h => ?_) (fun cdv A outer s H vs Q E hr h => ?_)
  · obtain ⟨a, ks, lo, hi, rfl, _⟩ := h
    rfl
  · obtain ⟨a, ks, lo, hi, rfl, N, q⟩ := h
    refine ⟨_, pss_cons (ps_if (PW.pt (pw_or (pt_not (pt_val (pe_callB call_isN (by rfl) mi PyProof.Rows.boot_isinstance (pa_cons (pv 0) (pa_cons (pe_bltn (v := .ty "dict") (by rfl) m1 (by decide +kernel) rfl) pa_nil)))))
        (pw_or1 (pt_not (pt_chain op_le op_le (pv 1) (pe_callB call_lenN (by rfl) ml PySem.boot_len (pa_cons (pv 0) pa_nil)) (pv 2)))))) (pss_one (ps_ret pe_bl)) pss_nil)
      (pss_one (ps_ret (pe_callB (cr_all (by rfl)) (by rfl) ma (by decide +kernel) (pa_cons (pe_lc (own := [("key", 3)]) (g := gName 3) rfl S.nd (pi_keyN (pv 0)) (blkOk_by (N := NDn) (sc := defScope sDctN) (by decide +kernel)) (fun _ _ _ _ _ => pg_name (i := 3) S.nd rfl (.inl rfl)) (fun _ _ _ _ _ => pts_nil)
        (fun _ _ _ _ _ => pe_call G1 hr (by rfl) g1 k1 b1 .nil pass0 (pa_cons (pv 3) pa_nil))) pa_nil)))), ?_⟩
    refine ⟨_, rfl, a, ks, .ty "dict", .type "dict", true, rfl, N.at_, .ty _, kit_dict, _, rfl, iteF ⟨_, rfl, _, rfl, a, ks, rfl, N.at_, _, _, rfl, rfl, _, rfl, ?_⟩⟩
    cases e1 : decide (lo ≤ (ks.length : Int)) with
    | false => exact iteF ⟨_, rfl, iteT (q H (Same.refl _))⟩
    | true =>
      refine iteT ⟨_, rfl, _, _, rfl, rfl, _, rfl, ?_⟩
      cases e2 : decide ((ks.length : Int) ≤ hi) with
      | false => exact iteT (q H (Same.refl _))
      | true =>
        obtain ⟨o, ho, hsys, hf⟩ := id N.at_
        refine iteF ⟨_, rfl, a, o, ks, rfl, ho, hsys, hf, fun D nD => lc_it (D := D) walk_N (PB H D (ks.map fun k => isNameW (keyO k))) (PB.zero nD) (fun i H' _ p => ⟨p.1 _ _ ho, hf⟩) ?_ ?_⟩
        · rintro i x H3 H4 hi p ⟨rfl, k, hk, rfl⟩
          refine ⟨rfl, ?_⟩
          dsimp only [tYes]
          rw [if_pos rfl]
          have hb : (ks.map fun k => isNameW (keyO k))[i]? = some (isNameW (keyO k)) := by rw [List.getElem?_map, hk]; rfl
          have few := N.few
          exact ⟨_, rfl, kN k, keyO k, rfl, keyO_is (N.sm _ (List.mem_of_getElem? hk)), fun H5 s5 => p.step s5 nD (by omega) hb⟩
        · intro H3 p
          have hl : (ks.map fun k => isNameW (keyO k)).length = ks.length := List.length_map _
          rw [← hl] at p
          refine ⟨D, _, rfl, SqL.of p.all, ?_⟩
          have e3 : (ks.map fun k => isNameW (keyO k)).all id = false := by
            rw [List.all_map]
            cases z : ks.all (id ∘ fun k => isNameW (keyO k)) with
            | false => rfl
            | true => exact absurd (List.all_eq_true.mp z _ N.non) (by decide)
          rw [e3]
          exact q H3 p.1
theorem ok_moves2 {f f2 : Addr} {fd fd2 : FuncData} {f1 f3 : Addr} {fd1 fd3 : FuncData} (F : Fun K "are_moves" "are_moves" sMoves f fd) (G1 : FnOk P w K mg base CX0 1 f1 fd1 ["value"] spIsList) (k1 : PySem.W.keepIn K (.ref f1) = true) (b1 : Binds K fd1 ["value"] []) (g1 : mg "is_list" = some (.ref f1))
    (G2 : FnOk P w K mg base CX0 2 f2 fd2 ["value", "fewest", "most"] (spDctN2 P w)) (k2 : PySem.W.keepIn K (.ref f2) = true) (b2 : Binds K fd2 ["value", "fewest", "most"] []) (g2 : mg "is_dict_of_names" = some (.ref f2))
    (G3 : FnOk P w K mg base CX0 3 f3 fd3 ["value", "many"] spStates) (k3 : PySem.W.keepIn K (.ref f3) = true) (b3 : Binds K fd3 ["value", "many"] []) (g3 : mg "are_states" = some (.ref f3))
    (ma : mg "all" = none) (mm : mg "max" = none) (ml : mg "len" = none) : FnOk P w K mg base CX0 4 f fd ["value"] (spMoves2 P w) := by
  have S := scMo
  refine F.ok S (fun vs H Q E h => ?_) (fun cdv A outer s H vs Q E hr h => ?_)
  · obtain ⟨a, ks, rfl, _⟩ := h
    rfl
  · obtain ⟨a, ks, rfl, N, q⟩ := h
    have hr1 := hr.mono (show 1 ≤ 3 by decide)
    have hr2 := hr.mono (show 2 ≤ 3 by decide)
    refine ⟨_, pss_cons (ps_if (PW.pt (pw_or (pt_not (pt_val (pe_call G2 hr2 (by rfl) g2 k2 b2 .nil pass0 (pa_cons (pv 0) (pa_cons pe_int (pa_cons pe_int pa_nil))))))
        (pw_or1 (pt_not (pt_val (pe_lock (pe_callB (cr_all (by rfl)) (by rfl) ma (by decide +kernel) (pa_cons (pe_lc (own := [("states", 2)]) (g := gName 2) rfl S.nd (pi_values (pv 0)) (blkOk_by (N := NMo) (sc := defScope sMoves) (by decide +kernel)) (fun _ _ _ _ _ => pg_name (i := 2) S.nd rfl (.inl rfl)) (fun _ _ _ _ _ => pts_nil)
          (fun _ _ _ _ _ => pe_call G1 hr1 (by rfl) g1 k1 b1 .nil pass0 (pa_cons (pv 2) pa_nil))) pa_nil)))))))) (pss_one (ps_ret pe_bl)) pss_nil)
      (pss_cons (ps_set (i := 1) S.nd rfl (.inr rfl) (pe_lock (pe_callB (cr_max (by rfl)) (by rfl) mm (by decide +kernel) (pa_cons (pe_lc (own := [("states", 2)]) (g := gName 2) rfl S.nd (pi_values (pv 0)) (blkOk_by (N := NMo) (sc := defScope sMoves) (by decide +kernel)) (fun _ _ _ _ _ => pg_name (i := 2) S.nd rfl (.inl rfl)) (fun _ _ _ _ _ => pts_nil)
          (fun _ _ _ _ _ => pe_callB (show CallR _ (.builtin "len") (rLenA K) from call_len_seq) (by rfl) ml PySem.boot_len (pa_cons (pv 2) pa_nil))) pa_nil))))
      (pss_cons (ps_if (pt_not (pt_chain op_le op_le pe_int (pv 1) pe_int)) (pss_one (ps_ret pe_bl)) pss_nil)
      (pss_one (ps_ret (pe_lock (pe_callB (cr_all (by rfl)) (by rfl) ma (by decide +kernel) (pa_cons (pe_lc (own := [("states", 2)]) (g := gName 2) rfl S.nd (pi_values (pv 0)) (blkOk_by (N := NMo) (sc := defScope sMoves) (by decide +kernel)) (fun _ _ _ _ _ => pg_name (i := 2) S.nd rfl (.inl rfl)) (fun _ _ _ _ _ => pts_nil)
          (fun _ _ _ _ _ => pe_and (pe_cmpR op_eq (pe_callB (show CallR _ (.builtin "len") (rLenA K) from call_len_seq) (by rfl) ml PySem.boot_len (pa_cons (pv 2) pa_nil)) (pv 1) (nomark _)) (pe_one (pe_call G3 hr (by rfl) g3 k3 b3 .nil pass0 (pa_cons (pv 2) (pa_cons (pv 1) pa_nil)))))) pa_nil))))))), ?_⟩
    exact ⟨_, rfl, a, ks, 1, 3, rfl, N, fun H1 s1 => ⟨_, rfl, iteT (q H1 s1)⟩⟩
/-- __init__ of a dict with the key None for steps -/
def spInit2 (P : Program) (w : World) (C CB : Addr) : Sp := fun vs H Q E => ∃ p dx a ks g, vs = [.ref p, .ref a, g] ∧ H p = some (.ins C dx []) ∧ NdOk P w H a ks ∧ ∀ d H', Bp p H H' → H' d = none → E (.ref CB) (some d) (upd H' d (.xd [("part", .str "steps")]))
theorem ok_init2 {f C CB f1 f2 : Addr} {fd fd1 fd2 : FuncData} (F : Fun K "__init__" "Pattern.__init__" sInit f fd) (T : PTxt K C) (G1 : FnOk P w K mg base CX0 4 f1 fd1 ["value"] (spMoves2 P w)) (k1 : PySem.W.keepIn K (.ref f1) = true) (b1 : Binds K fd1 ["value"] []) (g1 : mg "are_moves" = some (.ref f1))
    (G2 : FnOk P w K mg base CX0 4 f2 fd2 ["value", "many"] spGood) (k2 : PySem.W.keepIn K (.ref f2) = true) (b2 : Binds K fd2 ["value", "many"] []) (g2 : mg "are_good" = some (.ref f2))
    (TB : One P K CB "part") (ms : mg "super" = none) (gB : mg "BadPattern" = some (.ref CB)) (kB : PySem.W.keepIn K (.ref CB) = true) (m1 : mg "sorted" = none) (m2 : mg "tuple" = none) (m3 : mg "len" = none) (m4 : mg "min" = none) :
    FnOk P w K mg base (L2.CX P w) 5 f fd ["self", "steps", "good"] (spInit2 P w C CB) := by
  have S := scIn
  refine F.okX S (fun vs H Q E h => ?_) (fun cdv A outer s H vs Q E hr h => ?_)
  · obtain ⟨p, dx, a, ks, g, rfl, _⟩ := h
    rfl
  · obtain ⟨p, dx, a, ks, g, rfl, hp, N, hE⟩ := h
    have hu := hu_of hr
    have hr1 := hr.mono (show 1 ≤ 4 by decide)
    have tk : Takes (cxOf (L2.CX P w) P w K mg base NIn "Pattern.__init__" (defScope sInit) f cdv A outer s H E) (fun cls d _ H => E cls d H) := takes_of rfl rfl rfl rfl
    refine ⟨_, pss_cons (ps_if (pt_not (pt_val (pe_call G1 hr (by rfl) g1 k1 b1 .nil pass0 (pa_cons (pv 1) pa_nil)))) (pss_one (ps_raise rfl tk (pmk_err TB ms hr1 (by rfl) gB kB pe_str))) pss_nil)
      (pss_cons (ps_fld (pv 0) (pe_dc (own := [("kind", 3)]) (g := gName 3) rfl S.nd (pi_list (pe_callB (call_sortedD rfl) (by rfl) m1 (by decide +kernel) (pa_cons (pv 1) pa_nil))) (blkOk_by (N := NIn) (sc := defScope sInit) (by decide +kernel)) (fun _ _ _ _ _ => pg_name (i := 3) S.nd rfl (.inl rfl)) (fun _ _ _ _ _ => pts_nil)
          (fun _ _ _ _ _ => pv 3) (fun _ _ _ _ _ => pe_callTy (show CallR _ (.type "tuple") (rTupA K) from call_tuple_of) (by rfl) m2 (by decide +kernel) (pa_cons (pe_dget hu (pv 1) (pv 3) (fun _ _ => rfl)) pa_nil))) rfl)
      (pss_cons (ps_fld (pv 0) (pe_callB call_len_seq (by rfl) m3 PySem.boot_len (pa_cons (pe_dget hu (pe_fld (pv 0) rfl) (pe_callB (call_minD rfl) (by rfl) m4 (by decide +kernel) (pa_cons (pe_fld (pv 0) rfl) pa_nil)) (fun _ _ => rfl)) pa_nil)) rfl)
      (pss_cons (ps_if (pt_not (pt_val (pe_call G2 hr (by rfl) g2 k2 b2 .nil pass0 (pa_cons (pv 2) (pa_cons (pe_fld (pv 0) rfl) pa_nil))))) (pss_one (ps_raise rfl tk (pmk_err TB ms hr1 (by rfl) gB kB pe_str))) pss_nil)
      (pss_one (ps_fld (pv 0) (pe_callTy call_tuple_of (by rfl) m2 (by decide +kernel) (pa_cons (pe_callB cr_sortA (by rfl) m1 (by decide +kernel) (pa_cons (pv 2) pa_nil)) pa_nil)) rfl))))), ?_⟩
    exact ⟨_, rfl, a, ks, rfl, N, fun H1 s1 => ⟨_, rfl, iteT fun d nd => hE d H1 (fun b o e _ => s1 b o e) nd⟩⟩
/-- _law_due of a dict with the key None -/
def spLDue2 (P : Program) (w : World) : Sp := fun vs H Q _ => ∃ a ks g, vs = [.ref a, g] ∧ NdOk P w H a ks ∧ ∀ r H', Same H H' → H r = none → H' r = some (.lst [.str "steps"]) → Q (.ref r) H'
theorem ok_ldue2 {f f1 f2 : Addr} {fd fd1 fd2 : FuncData} (F : Fun K "_law_due" "_law_due" sLDue f fd) (G1 : FnOk P w K mg base CX0 1 f1 fd1 ["_law_thing_here"] spLTitle) (k1 : PySem.W.keepIn K (.ref f1) = true) (b1 : Binds K fd1 ["_law_thing_here"] []) (g1 : mg "_law_is_title" = some (.ref f1))
    (G2 : FnOk P w K mg base CX0 1 f2 fd2 ["_law_thing_here", "_law_many"] spLState) (k2 : PySem.W.keepIn K (.ref f2) = true) (b2 : Binds K fd2 ["_law_thing_here", "_law_many"] []) (g2 : mg "_law_is_state" = some (.ref f2))
    (mi : mg "isinstance" = none) (m1 : mg "dict" = none) (m2 : mg "list" = none) (m3 : mg "tuple" = none) (ml : mg "len" = none) (ms : mg "set" = none) : FnOk P w K mg base CX0 2 f fd ["_law_steps_here", "_law_good_here"] (spLDue2 P w) := by
  have S := scLd
  refine F.ok S (fun vs H Q E h => ?_) (fun cdv A outer s H vs Q E hr h => ?_)
  · obtain ⟨a, ks, g, rfl, _⟩ := h
    rfl
  · obtain ⟨a, ks, g, rfl, N, q⟩ := h
    have hu := hu_of hr
    have hu0 : (envOfC "_law_due" (defScope sLDue) s.heap.objs.size f cdv |> A.deeper).units < cLine := by exact hr.units0
    refine ⟨_, pss_cons (ps_if (PW.pt (pw_or (pt_not (pt_val (pe_callB call_isN (by rfl) mi PyProof.Rows.boot_isinstance (pa_cons (pv 0) (pa_cons (pe_bltn (v := .ty "dict") (by rfl) m1 (by decide +kernel) rfl) pa_nil)))))
        (pw_or1 (pt_not (pt_chain op_le op_le pe_int (pe_callB call_lenN (by rfl) ml PySem.boot_len (pa_cons (pv 0) pa_nil)) pe_int))))) (pss_one (ps_ret (pe_lst (pa_cons pe_str pa_nil)))) pss_nil)
      (pss_cons (ps_if (pt_cmpR (op_neNil hu0) (pe_lc (own := [("_law_key", 5)]) (g := gName 5) rfl S.nd (pi_keyN (pv 0)) (blkOk_by (N := NLd) (sc := defScope sLDue) (by decide +kernel)) (fun _ _ _ _ _ => pg_name (i := 5) S.nd rfl (.inl rfl)) (fun _ _ _ _ _ => pts_one (pt_not (pt_val (pe_call G1 hr (by rfl) g1 k1 b1 .nil pass0 (pa_cons (pv 5) pa_nil)))))
          (fun _ _ _ _ _ => pv 5)) (pe_lst pa_nil) (nomark _)) (pss_one (ps_ret (pe_lst (pa_cons pe_str pa_nil)))) pss_nil)
      (pss_cons (ps_set (i := 2) S.nd rfl (.inl rfl) (pe_listV (by rfl) (pv 0) (by rfl) m2))
      (pss_cons (ps_if (pt_cmpR (op_neNil hu0) (pe_lc (own := [("_law_line", 4)]) (g := gName 4) rfl S.nd (pi_list (pv 2)) (blkOk_by (N := NLd) (sc := defScope sLDue) (by decide +kernel)) (fun _ _ _ _ _ => pg_name (i := 4) S.nd rfl (.inl rfl))
          (fun _ _ _ _ _ => pts_one (PW.pt (pw_or (pt_not (pt_val (pe_callB (show CallR _ (.builtin "isinstance") (rIsiT K) from call_isiT) (by rfl) mi PyProof.Rows.boot_isinstance (pa_cons (pv 4) (pa_cons (pe_tup (pa_cons (pe_bltn (v := .ty "list") (by rfl) m2 (by decide +kernel) rfl) (pa_cons (pe_bltn (v := .ty "tuple") (by rfl) m3 (by decide +kernel) rfl) pa_nil))) pa_nil)))))
            (pw_or1 (pt_not (pt_chain op_le op_le pe_int (pe_callB (show CallR _ (.builtin "len") (rLenA K) from call_len_seq) (by rfl) ml PySem.boot_len (pa_cons (pv 4) pa_nil)) pe_int))))))
          (fun _ _ _ _ _ => pv 4)) (pe_lst pa_nil) (nomark _)) (pss_one (ps_ret (pe_lst (pa_cons pe_str pa_nil)))) pss_nil)
      (pss_cons (ps_set (i := 3) S.nd rfl (.inr rfl) (pe_callB call_len_seq (by rfl) ml PySem.boot_len (pa_cons (pe_ix ix_list (pv 2) pe_int (fun _ _ => rfl)) pa_nil)))
      (pss_cons (ps_for PassesOwn.never rfl (pi_list (pv 2)) (pg_name (i := 4) S.nd rfl (.inl rfl))
          (pss_one (ps_if (PW.pt (pw_or (pt_cmpR op_ne (pe_callB call_len_seq (by rfl) ml PySem.boot_len (pa_cons (pv 4) pa_nil)) (pv 3) (nomark _))
            (pw_or1 (pt_cmpR (op_neNil hu0) (pe_lc (own := [("_law_state", 6)]) (g := gName 6) rfl S.nd (pi_both (pi_list (pv 4)) (pi_tup (pv 4))) (blkOk_by (N := NLd) (sc := defScope sLDue) (by decide +kernel)) (fun _ _ _ _ _ => pg_name (i := 6) S.nd rfl (.inl rfl))
              (fun _ _ _ _ _ => pts_one (pt_not (pt_val (pe_call G2 hr (by rfl) g2 k2 b2 .nil pass0 (pa_cons (pv 6) (pa_cons (pv 3) pa_nil)))))) (fun _ _ _ _ _ => pv 6)) (pe_lst pa_nil) (nomark _))))) (pss_one (ps_ret (pe_lst (pa_cons pe_str pa_nil)))) pss_nil)))
      (pss_cons (ps_if (pt_not (pt_val (pe_callB call_isiT (by rfl) mi PyProof.Rows.boot_isinstance (pa_cons (pv 1) (pa_cons (pe_tup (pa_cons (pe_bltn (v := .ty "list") (by rfl) m2 (by decide +kernel) rfl) (pa_cons (pe_bltn (v := .ty "tuple") (by rfl) m3 (by decide +kernel) rfl) pa_nil))) pa_nil))))) (pss_one (ps_ret (pe_lst (pa_cons pe_str pa_nil)))) pss_nil)
      (pss_cons (ps_if (pt_cmpR (op_neNil hu0) (pe_lc (own := [("_law_state", 6)]) (g := gName 6) rfl S.nd (pi_both (pi_list (pv 1)) (pi_tup (pv 1))) (blkOk_by (N := NLd) (sc := defScope sLDue) (by decide +kernel)) (fun _ _ _ _ _ => pg_name (i := 6) S.nd rfl (.inl rfl))
              (fun _ _ _ _ _ => pts_one (pt_not (pt_val (pe_call G2 hr (by rfl) g2 k2 b2 .nil pass0 (pa_cons (pv 6) (pa_cons (pv 3) pa_nil)))))) (fun _ _ _ _ _ => pv 6)) (pe_lst pa_nil) (nomark _)) (pss_one (ps_ret (pe_lst (pa_cons pe_str pa_nil)))) pss_nil)
      (pss_one (ps_ret (pe_ifExp (pt_cmpR op_ne (pe_lenSetA (by rfl) (by rfl) ml (by rfl) ms (pv 1)) (pe_callB call_len_seq (by rfl) ml PySem.boot_len (pa_cons (pv 1) pa_nil)) (nomark _)) (pe_lst (pa_cons pe_str pa_nil)) (pe_lst pa_nil))))))))))), ?_⟩
    have retS : ∀ Hc, Same H Hc → ∀ p, Hc p = none → Q (.ref p) (upd Hc p (.lst [.str "steps"])) := fun Hc sc p np => q p _ (same_own (sc.free np) sc) (sc.free np) upd_same
    refine ⟨_, rfl, a, ks, .ty "dict", .type "dict", true, rfl, N.at_, .ty _, kit_dict, _, rfl, iteF ⟨_, rfl, a, ks, rfl, N.at_, _, _, rfl, rfl, _, rfl, ?_⟩⟩
    cases e1 : decide ((1 : Int) ≤ (ks.length : Int)) with
    | false => exact iteF ⟨_, rfl, iteT ⟨by show 1 ≤ sizeLine; decide, fun p np => retS H (Same.refl _) p np⟩⟩
    | true =>
      refine iteT ⟨_, _, rfl, rfl, _, rfl, ?_⟩
      cases e2 : decide ((ks.length : Int) ≤ 3) with
      | false => exact iteT ⟨by show 1 ≤ sizeLine; decide, fun p np => retS H (Same.refl _) p np⟩
      | true =>
        obtain ⟨o, ho, hsys, hf⟩ := id N.at_
        refine iteF ⟨_, rfl, a, o, ks, rfl, ho, hsys, hf, fun D nD => lc_it (D := D) walk_N (PK H D [] (ks.map fun k => !isNameW (keyO k))) (PK.zero nD) (fun i H' _ p => ⟨p.1 _ _ ho, hf⟩) ?_ ?_⟩
        · rintro i x H3 H4 hi p ⟨rfl, k, hk, rfl⟩
          have hb : (ks.map fun k => !isNameW (keyO k))[i]? = some (!isNameW (keyO k)) := by rw [List.getElem?_map, hk]; rfl
          have few := N.few
          refine ⟨rfl, _, rfl, kN k, keyO k, rfl, keyO_is (N.sm _ (List.mem_of_getElem? hk)), fun H5 s5 => ⟨_, rfl, ?_⟩⟩
          cases e4 : isNameW (keyO k) with
          | true =>
            rw [e4] at hb
            exact iteF (p.no s5 hb)
          | false =>
            rw [e4] at hb
            exact iteT ⟨_, rfl, p.yes s5 nD (by omega) hb⟩
        · intro H3 p
          have hl : (ks.map fun k => !isNameW (keyO k)).length = ks.length := List.length_map _
          rw [← hl] at p
          obtain ⟨acc, hD, hacc⟩ := p.all
          refine ⟨by show 0 ≤ sizeLine; decide, fun n0 nn => ⟨D, n0, acc, rfl, rfl, same_new nn _ _ hD, upd_same, _, rfl, ?_⟩⟩
          rw [hacc]
          have e3 : (ks.map fun k => !isNameW (keyO k)).any id = true := by
            rw [List.any_map]
            exact List.any_eq_true.mpr ⟨none, N.non, rfl⟩
          rw [e3]
          exact iteT ⟨by show 1 ≤ sizeLine; decide, fun p2 np => retS _ (p.1.trans (same_new nn)) p2 np⟩
end
end Kn
-- part Ct
set_option maxHeartbeats 4000000
namespace Kn
open PySem PySem.Spec PyProof.Rows L2 Err
def noTbl : Option HO → Option HO
  | some (.tbl _) => none
  | o => o
theorem noTbl_some {u : Option HO} {o : HO} (e : noTbl u = some o) : u = some o ∧ ∀ ps, o ≠ .tbl ps := by
  cases u with
  | none => cases e
  | some v =>
    cases v with
    | tbl ps => cases e
    | _ =>
      refine ⟨e, fun ps z => ?_⟩
      rw [z] at e
      cases e
theorem noTbl_of {o : HO} (n : ∀ ps, o ≠ .tbl ps) : noTbl (some o) = some o := by
  cases o with
  | tbl ps => exact absurd rfl (n ps)
  | _ => rfl
/-- the heap without the draws and the tables of code objects -/
def cut (d l : Addr) (H : Hp) : Hp := fun b => if b = d ∨ b = l then none else noTbl (H b)
theorem cut_ne4 {d l b : Addr} {H : Hp} {o : HO} (e : cut d l H b = some o) : b ≠ d ∧ b ≠ l ∧ H b = some o ∧ ∀ ps, o ≠ .tbl ps := by
  unfold cut at e
  by_cases z : b = d ∨ b = l
  · rw [if_pos z] at e
    cases e
  · rw [if_neg z] at e
    exact ⟨fun q => z (.inl q), fun q => z (.inr q), noTbl_some e⟩
theorem cut_ne {d l b : Addr} {H : Hp} {o : HO} (e : cut d l H b = some o) : b ≠ d ∧ b ≠ l ∧ H b = some o := ⟨(cut_ne4 e).1, (cut_ne4 e).2.1, (cut_ne4 e).2.2.1⟩
theorem cut_le {d l : Addr} {H : Hp} : Same (cut d l H) H := fun b o e => (cut_ne e).2.2
theorem cut_at {d l b : Addr} {H : Hp} {o : HO} (e : H b = some o) (n1 : b ≠ d) (n2 : b ≠ l) (n3 : ∀ ps, o ≠ .tbl ps := by intro _ z; cases z) : cut d l H b = some o := by
  unfold cut
  rw [if_neg (by rintro (z | z); exact n1 z; exact n2 z), e]
  exact noTbl_of n3
/-- all but the draws and the tables -/
def ButN (d l : Addr) (H H' : Hp) : Prop := ∀ b o, H b = some o → b ≠ d → b ≠ l → (∀ ps, o ≠ .tbl ps) → H' b = some o
theorem ButN.cut {d l : Addr} {H H' : Hp} (B : ButN d l H H') : Same (cut d l H) (cut d l H') := fun b o e => by
  obtain ⟨n1, n2, e, n3⟩ := cut_ne4 e
  exact cut_at (B b o e n1 n2 n3) n1 n2 n3
theorem But.n {d l : Addr} {H H' : Hp} (B : But d l H H') : ButN d l H H' := fun b o e h1 h2 _ => B b o e h1 h2
theorem ButN.ext {d l : Addr} {H H' : Hp} (B : LamX.ExtN H H') : ButN d l H H' := fun b o e _ _ n => B b o e n
theorem ButN.refl {d l : Addr} {H : Hp} : ButN d l H H := fun _ _ e _ _ _ => e
theorem ButN.trans {d l : Addr} {H H1 H2 : Hp} (a : ButN d l H H1) (b : ButN d l H1 H2) : ButN d l H H2 := fun x o e h1 h2 n => b x o (a x o e h1 h2 n) h1 h2 n
theorem But.cut {d l : Addr} {H H' : Hp} (B : But d l H H') : Same (Kn.cut d l H) (Kn.cut d l H') := ButN.cut B.n
theorem But.of {d l : Addr} {H H' : Hp} (s : Same H H') : But d l H H' := fun b o e _ _ => s b o e
theorem But.back {d l c : Addr} {H H2 : Hp} {a : Addr} (B : But d l H H2) (D : Drw H2 d l c) (z : H2 a = none) : H a = none := by
  cases w : H a with
  | none => rfl
  | some o =>
    by_cases e1 : a = d
    · obtain ⟨⟨_, _, v⟩, _, _, _⟩ := D
      rw [← e1, z] at v
      cases v
    · by_cases e2 : a = l
      · obtain ⟨_, ⟨_, v⟩, _, _⟩ := D
        rw [← e2, z] at v
        cases v
      · rw [B a o w e1 e2] at z
        cases z
theorem Drw.off {d l c : Addr} {H : Hp} (D : Drw H d l c) {a : Addr} (z : H a = none) : a ≠ d ∧ a ≠ l := by
  refine ⟨fun e => ?_, fun e => ?_⟩
  · obtain ⟨⟨_, _, w⟩, _, _, _⟩ := D
    rw [← e, z] at w
    cases w
  · obtain ⟨_, ⟨_, w⟩, _, _⟩ := D
    rw [← e, z] at w
    cases w
/-- the draws stand in a heap that holds all of this one -/
theorem Drw.same {d l c : Addr} {H H' : Hp} (D : Drw H d l c) (s : Same H H') : Drw H' d l c := by
  obtain ⟨⟨r, t, h⟩, ⟨ns, hl⟩, ⟨ms, hc⟩, n⟩ := D
  exact ⟨⟨r, t, s _ _ h⟩, ⟨ns, s _ _ hl⟩, ⟨ms, s _ _ hc⟩, n⟩
/-- some value -/
def Isx (H : Hp) (v : V) : Prop := ∃ w, Is H v w
theorem Isx.same {H H' : Hp} {v : V} (h : Isx H v) (s : Same H H') : Isx H' v := by
  obtain ⟨w, h⟩ := h
  exact ⟨w, h.same s⟩
theorem isx_int {H : Hp} {i : Int} : Isx H (.int i) := ⟨_, .int i⟩
theorem isx_non {H : Hp} : Isx H .non := ⟨_, .non⟩
theorem isx_bl {H : Hp} {b : Bool} : Isx H (.bl b) := ⟨_, .bl b⟩
theorem isx_str {H : Hp} {x : Str} (h : x.cps.size ≤ 900) (ok : PyData.strOk x = true) : Isx H (.str x) := ⟨_, .str x h ok⟩
theorem isx_all {H : Hp} : ∀ {xs : List V}, (∀ x ∈ xs, Isx H x) → ∃ ws, IsAll H xs ws
  | [], _ => ⟨_, .nil⟩
  | x :: xs, h => by
    obtain ⟨w, hw⟩ := h x (List.mem_cons_self ..)
    obtain ⟨ws, hws⟩ := isx_all (xs := xs) fun y hy => h y (List.mem_cons_of_mem _ hy)
    exact ⟨_, .cons hw hws⟩
theorem isx_lst {H : Hp} {a : Addr} {xs : List V} (e : H a = some (.lst xs)) (z : xs.length ≤ 900) (h : ∀ x ∈ xs, Isx H x) : Isx H (.ref a) := by
  obtain ⟨ws, hw⟩ := isx_all h
  exact ⟨_, .lst z e hw⟩
theorem isx_tup {H : Hp} {a : Addr} {xs : List V} (e : Rd H a (.tup xs)) (z : xs.length ≤ 900) (h : ∀ x ∈ xs, Isx H x) : Isx H (.ref a) := by
  obtain ⟨ws, hw⟩ := isx_all h
  exact ⟨_, .tup z e hw⟩
theorem isx_kv {H : Hp} : ∀ {kvs : List (Key × V)}, (∀ p ∈ kvs, kSm (some p.1) ∧ Isx H p.2) → ∃ kws, IsKV H (kvs.map fun p => (some p.1, p.2)) kws
  | [], _ => ⟨_, .nil⟩
  | p :: kvs, h => by
    obtain ⟨h1, w, hw⟩ := h p (List.mem_cons_self ..)
    obtain ⟨ws, hws⟩ := isx_kv (kvs := kvs) fun y hy => h y (List.mem_cons_of_mem _ hy)
    exact ⟨_, .cons h1 hw hws⟩
theorem isx_dct {H : Hp} {a : Addr} {kvs : List (Key × V)} (e : H a = some (.dK kvs)) (z : kvs.length ≤ 900) (h : ∀ p ∈ kvs, kSm (some p.1) ∧ Isx H p.2) : Isx H (.ref a) := by
  obtain ⟨kws, hw⟩ := isx_kv h
  exact ⟨_, .dct (by rw [List.length_map]; exact z) ⟨kvs, .inl e, rfl⟩ hw⟩
theorem isx_ints {H : Hp} {a : Addr} {ns : List Int} (e : H a = some (.lst (ns.map V.int))) (z : ns.length ≤ 900) : Isx H (.ref a) :=
  isx_lst e (by rw [List.length_map]; exact z) fun x hx => by
    obtain ⟨i, _, rfl⟩ := List.mem_map.mp hx
    exact isx_int
theorem Isx.at {H : Hp} {a : Addr} (h : Isx H (.ref a)) : ∃ o, H a = some o := by
  obtain ⟨w, h⟩ := h
  cases h with
  | lst _ e _ => exact ⟨_, e⟩
  | tup _ e _ => rcases e with e | ⟨o, e⟩ <;> exact ⟨_, e⟩
  | dct _ e _ =>
    obtain ⟨ks, e, _⟩ := e
    rcases e with e | ⟨o, e⟩ <;> exact ⟨_, e⟩
def Nok (H : Hp) (v : V) : Prop := ∀ a ks, v = .ref a → H a = some (.dK ks) → (ks.map (·.1)).Nodup
/-- what is handed over for steps -/
def Fst (P : Program) (w : World) (H : Hp) (v : V) : Prop := (Isx H v ∧ NF H v ∧ Nok H v) ∨ ∃ a ks, v = .ref a ∧ NdOk P w H a ks
def Tok (H : Hp) (v : V) : Prop := ∀ a xs, v = .ref a → Rd H a (.tup xs) → FrT H a xs
/-- what is handed over for good -/
def Gst (H : Hp) (v : V) : Prop := Isx H v ∧ Tok H v
theorem NF.same {H H' : Hp} {v : V} (h : NF H v) (x : Isx H v) (s : Same H H') : NF H' v := by
  intro a o u e z
  subst e
  obtain ⟨o2, e2⟩ := x.at
  rw [s _ _ e2] at z
  exact h a o u rfl (by rw [e2]; exact z)
theorem Nok.same {H H' : Hp} {v : V} (h : Nok H v) (x : Isx H v) (s : Same H H') : Nok H' v := by
  intro a ks e z
  subst e
  obtain ⟨o2, e2⟩ := x.at
  rw [s _ _ e2] at z
  exact h a ks rfl (by rw [e2]; exact z)
theorem Tok.same {H H' : Hp} {v : V} (h : Tok H v) (x : Isx H v) (s : Same H H') : Tok H' v := by
  intro a xs e z
  subst e
  obtain ⟨o2, e2⟩ := x.at
  have r : Rd H a (.tup xs) := by
    rcases z with z | ⟨o, z⟩
    · rw [s _ _ e2] at z
      exact .inl (by rw [e2]; exact z)
    · rw [s _ _ e2] at z
      exact .inr ⟨o, by rw [e2]; exact z⟩
  obtain ⟨o, e3, e4⟩ := h a xs rfl r
  exact ⟨o, s _ _ e3, e4⟩
theorem Fst.same {P : Program} {w : World} {H H' : Hp} {v : V} (h : Fst P w H v) (s : Same H H') : Fst P w H' v := by
  rcases h with ⟨h1, h2, h3⟩ | ⟨a, ks, e, n⟩
  · exact .inl ⟨h1.same s, h2.same h1 s, h3.same h1 s⟩
  · exact .inr ⟨a, ks, e, n.same s⟩
theorem Gst.same {H H' : Hp} {v : V} (h : Gst H v) (s : Same H H') : Gst H' v := ⟨h.1.same s, h.2.same h.1 s⟩
/-- no reference -/
theorem flat_fst {P : Program} {w : World} {H : Hp} {v : V} (h : Isx H v) (n : ∀ a, v ≠ .ref a) : Fst P w H v := .inl ⟨h, fun a _ _ e => absurd e (n a), fun a _ e => absurd e (n a)⟩
theorem flat_gst {H : Hp} {v : V} (h : Isx H v) (n : ∀ a, v ≠ .ref a) : Gst H v := ⟨h, fun a _ e => absurd e (n a)⟩
theorem lst_fst {P : Program} {w : World} {H : Hp} {a : Addr} {xs : List V} (e : H a = some (.lst xs)) (h : Isx H (.ref a)) : Fst P w H (.ref a) := .inl ⟨h, (fun b o u z q => by cases z; rw [e] at q; cases q), (fun b ks z q => by cases z; rw [e] at q; cases q)⟩
theorem lst_gst {H : Hp} {a : Addr} {xs : List V} (e : H a = some (.lst xs)) (h : Isx H (.ref a)) : Gst H (.ref a) := ⟨h, fun b ys z q => by
  cases z
  rcases q with q | ⟨o, q⟩
  · rw [e] at q; cases q
  · rw [e] at q; cases q⟩
theorem dct_fst {P : Program} {w : World} {H : Hp} {a : Addr} {ks : List (Key × V)} (e : H a = some (.dK ks)) (n : (ks.map (·.1)).Nodup) (h : Isx H (.ref a)) : Fst P w H (.ref a) :=
  .inl ⟨h, (fun b o u z q => by cases z; rw [e] at q; cases q), (fun b ks2 z q => by cases z; rw [e] at q; cases q; exact n)⟩
theorem dct_gst {H : Hp} {a : Addr} {ks : List (Key × V)} (e : H a = some (.dK ks)) (h : Isx H (.ref a)) : Gst H (.ref a) := ⟨h, fun b ys z q => by
  cases z
  rcases q with q | ⟨o, q⟩
  · rw [e] at q; cases q
  · rw [e] at q; cases q⟩
theorem frt_gst {H : Hp} {a : Addr} {ns : List Int} (e : FrT H a (ns.map V.int)) (z : ns.length ≤ 900) : Gst H (.ref a) := by
  refine ⟨isx_tup e.rd (by rw [List.length_map]; exact z) fun x hx => ?_, fun b ys q r => ?_⟩
  · obtain ⟨i, _, rfl⟩ := List.mem_map.mp hx
    exact isx_int
  · cases q
    obtain ⟨o, e1, e2⟩ := e
    rcases r with r | ⟨o2, r⟩
    · rw [e1] at r; cases r
    · rw [e1] at r
      cases r
      exact ⟨_, e1, e2⟩
/-! ### dicts -/
theorem mem_putK {kvs : List (Key × V)} {k : Key} {v : V} {p : Key × V} (h : p ∈ putK kvs k v) : p = (k, v) ∨ p ∈ kvs := by
  unfold putK at h
  split at h
  · obtain ⟨q, hq, e⟩ := List.mem_map.mp h
    split at e
    · rename_i z
      left
      rw [← e]
      simp_all
    · exact .inr (e ▸ hq)
  · rcases List.mem_append.mp h with z | z
    · exact .inr z
    · exact .inl (List.mem_singleton.mp z)
theorem keys_putK {kvs : List (Key × V)} {k : Key} {v : V} : (putK kvs k v).map (·.1) = kvs.map (·.1) ∨ (k ∉ kvs.map (·.1) ∧ (putK kvs k v).map (·.1) = kvs.map (·.1) ++ [k]) := by
  cases e : valV kvs k with
  | none =>
    refine .inr ⟨fun z => ?_, by rw [putK_new v e, List.map_append]; rfl⟩
    obtain ⟨p, hp, hk⟩ := List.mem_map.mp z
    unfold valV at e
    rw [Option.map_eq_none_iff, List.find?_eq_none] at e
    exact e p hp (decide_eq_true hk)
  | some x =>
    left
    unfold putK
    split
    · rw [List.map_map]
      refine List.map_congr_left fun q _ => ?_
      show (if _ then (q.1, v) else q).1 = q.1
      split <;> rfl
    · rename_i h
      unfold valV at e
      obtain ⟨p, hp, _⟩ := Option.map_eq_some_iff.mp e
      have h1 := List.mem_of_find?_eq_some hp
      have h2 := List.find?_some hp
      exact absurd (List.any_eq_true.mpr ⟨p, h1, h2⟩) h
theorem nodup_putK {kvs : List (Key × V)} {k : Key} {v : V} (h : (kvs.map (·.1)).Nodup) : ((putK kvs k v).map (·.1)).Nodup := by
  rcases keys_putK (kvs := kvs) (k := k) (v := v) with e | ⟨n, e⟩
  · rw [e]; exact h
  · rw [e]
    refine List.nodup_append.mpr ⟨h, List.nodup_cons.mpr ⟨by simp, List.nodup_nil⟩, fun a ha b hb => ?_⟩
    rw [List.mem_singleton.mp hb]
    intro z
    exact n (z ▸ ha)
theorem merge_new : ∀ (more kvs : List (Key × V)), ((kvs ++ more).map (·.1)).Nodup → mergeK kvs more = kvs ++ more
  | [], kvs, _ => by rw [List.append_nil]; rfl
  | p :: more, kvs, h => by
    have e1 : valV kvs p.1 = none := valV_out fun z => by
      rw [List.map_append] at h
      exact (List.nodup_append.mp h).2.2 _ z _ (List.mem_cons_self ..) rfl
    show mergeK (putK kvs p.1 p.2) more = _
    rw [putK_new _ e1, merge_new more (kvs ++ [(p.1, p.2)]) (by rw [List.append_assoc]; exact h), List.append_assoc]
    rfl
section
variable {X : Cx} {f : Value} {r1 r2 : List V → Hp → VK → Prop}
theorem cr_two (h1 : CallR X f r1) (h2 : CallR X f r2) : CallR X f (fun xs H Q => r1 xs H Q ∨ r2 xs H Q) := by
  rintro pins s σ H xs us Q I r q
  rcases q with q | q
  · exact h1 pins s σ H xs us Q I r q
  · exact h2 pins s σ H xs us Q I r q
end
/-- tuple(list or tuple), known as an object if it is new -/
theorem call_tuple_good {X : Cx} : CallR X (.type "tuple") (fun xs H Q => ∃ p ys, xs = [.ref p] ∧ (SqL X.K H p ys ∨ SqT X.K H p ys) ∧ ∀ tr H', Same H H' → (tr = p ∧ H' = H ∧ SqT X.K H p ys ∨ H tr = none ∧ FrT H' tr ys) → Q (.ref tr) H') := by
  rintro pins s σ H xs us Q I r ⟨p, ys, rfl, h, q⟩
  rcases h with h | h
  · exact call_tuple_frz pins s σ H [.ref p] us Q I r ⟨p, ys, rfl, h, fun t o nt ho => q t _ (same_new nt) (.inr ⟨nt, o, upd_same, ho⟩)⟩
  · exact call_tupleT pins s σ H [.ref p] us Q I r ⟨p, ys, rfl, h, q p H (Same.refl _) (.inl ⟨rfl, rfl, h⟩)⟩
theorem SqA.lock {H : Hp} {d b : Addr} {od : Obj} {ks : List (Key × V)} {xs : List V} (hd : H d = some (.dK ks)) (h : SqA H b xs) : SqA (upd H d (.frz od (.dK ks))) b xs := by
  rcases h with h | h
  · exact .inl (by rw [upd_ne (ne_of h hd (by intro z; cases z))]; exact h)
  · exact .inr (Rd.lock hd h)
end Kn
-- part Ls
set_option maxHeartbeats 8000000
namespace Kn
open PySem PySem.Spec PyProof.Rows L2 Err
abbrev sLSpo : Stmt := topS 34
abbrev NSp : List Str := ["_law_draw", "_law_steps_here", "_law_good_here", "_law_key", "_law_later", "_law_odd", "_law_way"]
theorem scSp : FnScope NSp ["_law_draw", "_law_steps_here", "_law_good_here"] (defScope sLSpo) := ⟨rfl, rfl, rfl, by decide +kernel, rfl, by decide +kernel, by decide +kernel⟩
def rLstA (K : PySem.W.Frag) : List V → Hp → VK → Prop := fun xs H Q => ∃ p ys, xs = [.ref p] ∧ (SqL K H p ys ∨ SqT K H p ys) ∧ ∀ l, H l = none → Q (.ref l) (upd H l (.lst ys))
/-- pairs that are tuples -/
abbrev PairT (H : Hp) (ps : List Addr) (kvs : List (Key × V)) : Prop := Paired (fun p kv => H p = some (.tup [kV kv.1, kv.2])) ps kvs
theorem PairT.same {H H' : Hp} {ps : List Addr} {kvs : List (Key × V)} (h : PairT H ps kvs) (s : Same H H') : PairT H' ps kvs := Paired.mono (fun _ _ e => s _ _ e) h
theorem StepL.same {H H1 H2 : Hp} {many : Nat} {ts : List Str} {kvs : List (Key × V)} {ws : List (Str × List Int)} (h : StepL H H1 many ts kvs ws) (s : Same H1 H2) : StepL H H2 many ts kvs ws := h.mono fun a xs _ e => s _ _ e
theorem StepL.mem {H H1 : Hp} {many : Nat} {ts : List Str} {kvs : List (Key × V)} {ws : List (Str × List Int)} (h : StepL H H1 many ts kvs ws) : ∀ p ∈ kvs, ∃ (t : Str) (a : Addr) (ns : List Int), p = (.inr t, .ref a) ∧ t ∈ ts ∧ H a = none ∧ H1 a = some (.lst (ns.map V.int)) ∧ ns.length = many ∧ ∀ k ∈ ns, 0 ≤ k ∧ k < (many : Int) := by
  induction h with
  | nil => intro p hp; cases hp
  | snoc h n e len rng ih =>
    intro p hp
    rcases List.mem_append.mp hp with z | z
    · obtain ⟨t, a, ns, h1, h2, h3⟩ := ih p z
      exact ⟨t, a, ns, h1, List.mem_append.mpr (.inl h2), h3⟩
    · rw [List.mem_singleton.mp z]
      exact ⟨_, _, _, rfl, List.mem_append.mpr (.inr (List.mem_singleton.mpr rfl)), n, e, len, rng⟩
theorem StepL.base {H0 H H1 : Hp} {many : Nat} {ts : List Str} {kvs : List (Key × V)} {ws : List (Str × List Int)} (h : StepL H H1 many ts kvs ws) (b : ∀ a, H a = none → H0 a = none) : StepL H0 H1 many ts kvs ws := by
  induction h with
  | nil => exact .nil
  | snoc h n e len rng ih => exact .snoc ih (b _ n) e len rng
def spLSpo (P : Program) (w : World) : Sp := fun vs H Q _ => ∃ d l c v g u ug, vs = [.ref d, v, g] ∧ Drw H d l c ∧ Is (cut d l H) v u ∧ NF (cut d l H) v ∧ Nok (cut d l H) v ∧ movesW u = true ∧ Is (cut d l H) g ug ∧ Tok (cut d l H) g ∧ goodW (manyW u) ug = true ∧
  ∀ T s' g' H', Drw H' d l c → But d l H H' → H T = none → H' T = some (.tup [s', g']) → Fst P w (cut d l H') s' → Gst (cut d l H') g' → Q (.ref T) H'
theorem valV_mem {kvs : List (Key × V)} {k : Key} (h : k ∈ kvs.map (·.1)) : ∃ v, valV kvs k = some v ∧ (k, v) ∈ kvs := by
  cases e : valV kvs k with
  | none =>
    unfold valV at e
    rw [Option.map_eq_none_iff, List.find?_eq_none] at e
    obtain ⟨p, hp, hk⟩ := List.mem_map.mp h
    exact absurd (decide_eq_true hk) (e p hp)
  | some v =>
    unfold valV at e
    obtain ⟨p, hp, hv⟩ := Option.map_eq_some_iff.mp e
    have h1 := List.mem_of_find?_eq_some hp
    have h2 : p.1 = k := of_decide_eq_true (List.find?_some (p := fun kv : Key × V => decide (kv.1 = k)) hp)
    refine ⟨v, rfl, ?_⟩
    rw [← h2, ← hv]
    exact h1
theorem nodup_below : ∀ (n : Nat) (ns : List Int), ns.Nodup → (∀ k ∈ ns, 0 ≤ k ∧ k < (n : Int)) → ns.length ≤ n
  | 0, ns, _, h => by
    cases ns with
    | nil => exact Nat.le_refl _
    | cons k ns =>
      have := h k (List.mem_cons_self ..)
      omega
  | n + 1, ns, nd, h => by
    have e := List.length_eq_countP_add_countP (fun k => decide (k = (n : Int))) (l := ns)
    have c1 : List.countP (fun k => decide (k = (n : Int))) ns ≤ 1 := by
      have z := (List.nodup_iff_count.mp nd) (n : Int)
      have e2 : List.count (n : Int) ns = List.countP (fun k => decide (k = (n : Int))) ns := by
        unfold List.count
        refine List.countP_congr fun x _ => ?_
        simp
      omega
    have c2 : List.countP (fun a => decide ¬(decide (a = (n : Int))) = true) ns ≤ n := by
      rw [List.countP_eq_length_filter]
      refine nodup_below n _ (nd.filter _) fun k hk => ?_
      obtain ⟨h1, h2⟩ := List.mem_filter.mp hk
      have h3 := h k h1
      have h4 : k ≠ (n : Int) := by simpa using h2
      omega
    omega
section
variable {P : Program} {w : World} {K : PySem.W.Frag} {mg : Str → Option Value} {base : Heap}
theorem ok_lspo {f fT fP : Addr} {fd fdT fdP : FuncData} (F : Fun K "_law_spoilt" "_law_spoilt" sLSpo f fd) (GT : FnOk P w K mg base CX0 2 fT fdT ["_law_draw", "_law_amount"] spTake) (kT : PySem.W.keepIn K (.ref fT) = true)
    (bT : Binds K fdT ["_law_draw", "_law_amount"] []) (gT : mg "_law_take" = some (.ref fT)) (GP : FnOk P w K mg base CX0 3 fP fdP ["_law_draw", "_law_some"] spPick) (kP : PySem.W.keepIn K (.ref fP) = true) (bP : Binds K fdP ["_law_draw", "_law_some"] []) (gP : mg "_law_pick" = some (.ref fP))
    (md : mg "dict" = none) (ms : mg "sorted" = none) (ml : mg "len" = none) (mt : mg "tuple" = none) (mi : mg "list" = none) :
    FnOk P w K mg base CX0 4 f fd ["_law_draw", "_law_steps_here", "_law_good_here"] (spLSpo P w) := by
  have S := scSp
  refine F.ok S (fun vs H Q E h => ?_) (fun cdv A outer s H vs Q E hr h => ?_)
  · obtain ⟨d, l, c, v, g, u, ug, rfl, _⟩ := h
    rfl
  · obtain ⟨d, l, c, v, g, u, ug, rfl, D, hv, nf, nk, mv, hg, tg, gd, q⟩ := h
    have hu := hu_of hr
    have hr2 := hr.mono (show 2 ≤ 3 by decide)
    refine ⟨_, pss_cons (ps_par (i := 4) (j := 3) rfl S.nd rfl rfl (by decide) rfl rfl (pa_cons (pe_callTy (call_dictP rfl) (by rfl) md (by decide +kernel) (pa_cons (pe_lock (pe_lc (own := [("_law_key", 3)]) (g := gName 3) rfl S.nd (pi_keys (pv 1)) (blkOk_by (N := NSp) (sc := defScope sLSpo) (by decide +kernel)) (fun _ _ _ _ _ => pg_name (i := 3) S.nd rfl (.inl rfl)) (fun _ _ _ _ _ => pts_nil)
            (fun _ _ _ _ _ => pe_tup (pa_cons (pv 3) (pa_cons (pe_callTy (show CallR _ (.type "list") (rLstA K) from call_list_of) (by rfl) mi (by decide +kernel) (pa_cons (pe_dget hu (pv 1) (pv 3) (fun _ _ => rfl)) pa_nil)) pa_nil))))) pa_nil)) (pa_cons (pe_ix ix_list (pe_callB (call_sortedD rfl) (by rfl) ms (by decide +kernel) (pa_cons (pv 1) pa_nil)) pe_int (fun _ _ => rfl)) pa_nil)) (by rfl) (by rfl)) (pss_cons (ps_set (i := 5) S.nd rfl (.inl rfl) (pe_call GP hr (by rfl) gP kP bP .nil pass0 (pa_cons (pv 0) (pa_cons (pe_lst (pa_cons (pe_non) (pa_cons (pe_bl) (pa_cons (pe_un un_neg pe_int) (pa_cons (pe_int) (pa_cons (pe_int) (pa_cons (pe_int) (pa_cons (pe_str) (pa_cons (pe_lst (pa_cons (pe_int) pa_nil)) (pa_cons (pe_op op_pow pe_int pe_int) pa_nil)))))))))) pa_nil)))) (pss_cons (ps_set (i := 6) S.nd rfl (.inl rfl) (pe_call GT hr2 (by rfl) gT kT bT .nil pass0 (pa_cons (pv 0) (pa_cons (pe_int) pa_nil)))) (pss_cons (ps_if (pt_cmpR op_eq (pv 6) pe_int (nomark _)) (pss_one (ps_dputN hu (pv 4) (pe_call GP hr (by rfl) gP kP bP .nil pass0 (pa_cons (pv 0) (pa_cons (pe_lst (pa_cons (pe_str) (pa_cons (pe_str) (pa_cons (pe_str) (pa_cons (pe_str) (pa_cons (pe_str) (pa_cons (pe_int) (pa_cons (pe_non) (pa_cons (pe_str) pa_nil))))))))) pa_nil))) (pe_dget hu (pv 4) (pv 3) (fun _ _ => rfl)) rfl)) (pss_one (ps_if (pt_cmpR op_eq (pv 6) pe_int (nomark _)) (pss_one (ps_dput hu (pv 4) (pv 3) (pe_op op_cat (pe_dget hu (pv 4) (pv 3) (fun _ _ => rfl)) (pe_lst (pa_cons (pv 5) pa_nil))) rfl)) (pss_one (ps_if (pt_cmpR op_eq (pv 6) pe_int (nomark _)) (pss_one (ps_asg (pv 5) (pg_sub (pe_dget hu (pv 4) (pv 3) (fun _ _ => rfl)) (pe_call GT hr2 (by rfl) gT kT bT .nil pass0 (pa_cons (pv 0) (pa_cons (pe_callB (call_len_seq) (by rfl) ml PySem.boot_len (pa_cons (pe_dget hu (pv 4) (pv 3) (fun _ _ => rfl)) pa_nil)) pa_nil))) set_list))) (pss_one (ps_if (pt_cmpR op_eq (pv 6) pe_int (nomark _)) (pss_one (ps_dput hu (pv 4) (pv 3) (pe_call GP hr (by rfl) gP kP bP .nil pass0 (pa_cons (pv 0) (pa_cons (pe_lst (pa_cons (pe_callTy (call_tuple_of) (by rfl) mt (by decide +kernel) (pa_cons (pe_dget hu (pv 4) (pv 3) (fun _ _ => rfl)) pa_nil)) (pa_cons (pe_non) (pa_cons (pe_str) (pa_cons (pe_lst pa_nil) (pa_cons (pe_op op_rep (pe_dget hu (pv 4) (pv 3) (fun _ _ => rfl)) pe_int) (pa_cons (pe_disp (pps_cons (pe_int) (pe_int) pps_nil) rfl rfl (by decide) (by decide)) pa_nil))))))) pa_nil))) rfl)) (pss_one (ps_if (pt_cmpR op_eq (pv 6) pe_int (nomark _)) (pss_one (ps_ret (pe_tup (pa_cons (pv 4) (pa_cons (pe_op op_cat (pe_callTy (call_list_of) (by rfl) mi (by decide +kernel) (pa_cons (pv 2) pa_nil)) (pe_lst (pa_cons (pv 5) pa_nil))) pa_nil))))) (pss_one (ps_if (pt_cmpR op_eq (pv 6) pe_int (nomark _)) (pss_one (ps_ret (pe_tup (pa_cons (pv 4) (pa_cons (pe_call GP hr (by rfl) gP kP bP .nil pass0 (pa_cons (pv 0) (pa_cons (pe_lst (pa_cons (pe_non) (pa_cons (pe_str) (pa_cons (pe_callTy (call_tuple_good) (by rfl) mt (by decide +kernel) (pa_cons (pv 2) pa_nil)) (pa_cons (pe_dnewK) (pa_cons (pe_op op_rep (pe_callTy (call_list_of) (by rfl) mi (by decide +kernel) (pa_cons (pv 2) pa_nil)) pe_int) (pa_cons (pe_int) pa_nil))))))) pa_nil))) pa_nil))))) (pss_one (ps_ret (pe_tup (pa_cons (pe_call GP hr (by rfl) gP kP bP .nil pass0 (pa_cons (pv 0) (pa_cons (pe_lst (pa_cons (pe_non) (pa_cons (pe_dnewK) (pa_cons (pe_lst pa_nil) (pa_cons (pe_disp (pps_cons (pv 3) (pe_lst (pa_cons (pe_int) pa_nil)) pps_nil) rfl rfl (by decide) (by decide)) (pa_cons (pe_str) pa_nil)))))) pa_nil))) (pa_cons (pv 2) pa_nil)))))))))))))))) (pss_one (ps_ret (pe_tup (pa_cons (pv 4) (pa_cons (pe_callTy (call_list_of) (by rfl) mi (by decide +kernel) (pa_cons (pv 2) pa_nil)) pa_nil)))))))), ?_⟩
    have hd0 : ∃ o, H d = some o := by obtain ⟨⟨r, t, e⟩, _, _, _⟩ := D; exact ⟨_, e⟩
    have off : ∀ {x : Addr}, H x = none → x ≠ d ∧ x ≠ l := fun z => D.off z
    obtain ⟨kws, rfl⟩ : ∃ kws, u = .dct kws := by
      cases u with
      | dct kws => exact ⟨kws, rfl⟩
      | _ => exact absurd (show false = true from mv) (by decide)
    cases hv with
    | @dct a kv0 _ hz hd hkv =>
    obtain ⟨ks, hd, rfl⟩ := hd
    have hdc : cut d l H a = some (.dK ks) := by
      rcases hd with hd | ⟨o, hd⟩
      · exact hd
      · exact absurd hd (nf a o _ rfl)
    obtain ⟨nad, nal, ha⟩ := cut_ne hdc
    obtain ⟨m1, m2⟩ := Bool.and_eq_true_iff.mp (show (isDctN 1 3 (.dct kws) && (kws.all (fun p => isSeq p.2) && (decide (1 ≤ mostW kws) && (decide (mostW kws ≤ 4) && kws.all fun p => decide (lenW p.2 = mostW kws) && statesW (mostW kws) p.2)))) = true from mv)
    obtain ⟨m3, m4⟩ := Bool.and_eq_true_iff.mp m2
    obtain ⟨m5, m6⟩ := Bool.and_eq_true_iff.mp m4
    obtain ⟨m7, m8⟩ := Bool.and_eq_true_iff.mp m6
    obtain ⟨n1, n2⟩ := Bool.and_eq_true_iff.mp (show (decide ((1 : Int) ≤ (kws.length : Int)) && (decide ((kws.length : Int) ≤ 3) && kws.all fun p => isNameK p.1)) = true from m1)
    obtain ⟨n3, n4⟩ := Bool.and_eq_true_iff.mp n2
    have n1 := of_decide_eq_true n1
    have n3 := of_decide_eq_true n3
    have m5 := of_decide_eq_true m5
    have m7 := of_decide_eq_true m7
    obtain ⟨hkeys, hline⟩ := lines_get hkv n4 m3 m8
    have hsm : ∀ p ∈ ks, kSm (some p.1) := fun p hp => hkv.sm (some p.1, p.2) (List.mem_map.mpr ⟨p, hp, rfl⟩)
    have lk : ks.length = kws.length := by
      have z := hkv.len
      rw [List.length_map] at z
      exact z
    have ndk := nk a ks rfl hdc
    generalize hts : (linesOf kws).map (·.1) = ts at hkeys hline
    have ltk : ts.length = ks.length := by
      have z := congrArg List.length hkeys
      rw [List.length_map, List.length_map] at z
      exact z.symm
    have ndt : ts.Nodup := by
      rw [hkeys] at ndk
      exact List.Pairwise.imp (fun h z => h (by rw [z])) (List.pairwise_map.mp ndk)
    have smt : ∀ t ∈ ts, kSm (some (.inr t)) := fun t ht => by
      have z : (Sum.inr t : Key) ∈ ks.map (·.1) := by rw [hkeys]; exact List.mem_map.mpr ⟨t, ht, rfl⟩
      obtain ⟨p, hp, e⟩ := List.mem_map.mp z
      rw [← e]
      exact hsm p hp
    obtain ⟨many, hmany⟩ : ∃ many : Nat, (many : Int) = mostW kws := ⟨(mostW kws).toNat, by omega⟩
    have many1 : 1 ≤ many := by omega
    have many4 : many ≤ 4 := by omega
    rw [← hmany] at hline
    -- the good ones
    have gd' : goodW (many : Int) ug = true := by
      have z : ((manyW (.dct kws) : Nat) : Int) = many := by
        show (((mostW kws).toNat : Nat) : Int) = many
        omega
      rw [z] at gd
      exact gd
    obtain ⟨g1, g2⟩ := Bool.and_eq_true_iff.mp (show (statesW many ug && (intsW ug).all fun k => decide ((intsW ug).count k = 1)) = true from gd')
    obtain ⟨g3, g4⟩ := Bool.and_eq_true_iff.mp (show (isSeq ug && (items ug).all (withinW 0 ((many : Int) - 1))) = true from g1)
    obtain ⟨ag, xg, rfl, hsqg, hzg, hallg⟩ := hg.seq g3
    have hxg : xg = (intsW ug).map V.int := ints_all hallg g4
    subst hxg
    have hlg : (intsW ug).length ≤ 4 := by
      have z := nodup_below many (intsW ug) ((count_nodup _).mp g2) fun k hk => by
        have z := ints_in g4 k hk
        omega
      omega
    generalize hgs : intsW ug = gs at hsqg hlg
    -- the end
    have fin0 : ∀ H12 s' g' T, Drw H12 d l c → But d l H H12 → H12 T = none → Fst P w (cut d l H12) s' → Gst (cut d l H12) g' → Q (.ref T) (upd H12 T (.tup [s', g'])) := fun H12 s' g' T D12 B12 nT f1 f2 =>
      q T s' g' _ (D12.new nT) (B12.trans (But.new nT)) (B12.back D12 nT) upd_same (f1.same (But.new nT).cut) (f2.same (But.new nT).cut)
    have fin1 : ∀ H12 s' T lg, Drw H12 d l c → But d l H H12 → Fst P w (cut d l H12) s' → H12 lg = none → (upd H12 lg (.lst (gs.map V.int))) T = none → Q (.ref T) (upd (upd H12 lg (.lst (gs.map V.int))) T (.tup [s', .ref lg])) := fun H12 s' T lg D12 B12 f1 nlg nT => by
      obtain ⟨o1, o2⟩ := D12.off nlg
      have e : cut d l (upd H12 lg (.lst (gs.map V.int))) lg = some (.lst (gs.map V.int)) := cut_at upd_same o1 o2
      exact fin0 _ s' _ T (D12.new nlg) (B12.trans (But.new nlg)) nT (f1.same (But.new nlg).cut) (lst_gst e (isx_ints e (by omega)))
    -- the dict made anew
    refine ⟨a, _, ha, trivial, fun od => ?_⟩
    have hHL : upd H a (.frz od (.dK ks)) a = some (.frz od (.dK ks)) := upd_same
    have backL : ∀ {x : Addr}, upd H a (.frz od (.dK ks)) x = none → H x = none := fun {x} z => by
      by_cases e : x = a
      · rw [e, upd_same] at z
        cases z
      · rw [upd_ne e] at z
        exact z
    have lineL : ∀ b xs, SqA H b xs → SqA (upd H a (.frz od (.dK ks))) b xs := fun b xs h => h.lock ha
    have unL : ∀ H5 : Hp, Same (upd H a (.frz od (.dK ks))) H5 → Same H (upd H5 a (.dK ks)) := fun H5 s b o e => by
      by_cases z : b = a
      · rw [z, upd_same]
        rw [z, ha] at e
        exact e
      · rw [upd_ne z]
        exact s b o (by rw [upd_ne z]; exact e)
    generalize upd H a (.frz od (.dK ks)) = HL at hHL backL lineL unL ⊢
    refine ⟨_, rfl, a, od, rfl, .inl ⟨ks, hHL, fun Dd nD => lc_it (D := Dd) walk_keys (fun i H4 => Same HL H4 ∧ ∃ ps kvs ws, H4 Dd = some (.lst (ps.map V.ref)) ∧ PairT H4 ps kvs ∧ StepL (upd HL Dd (.lst [])) H4 many (ts.take i) kvs ws ∧ ps.length = i)
      ⟨same_new nD, [], [], [], upd_same, .nil, by simpa using StepL.nil, rfl⟩ (fun i H' _ p => p.1 _ _ hHL) ?_ ?_⟩⟩
    · rintro i x Hz H3 hi ⟨s3, ps, kvs, ws, hD3, hP3, sL3, hl3⟩ ⟨rfl, k, vv, hk, rfl⟩
      obtain ⟨t, ht, rfl⟩ : ∃ t, ts[i]? = some t ∧ k = .inr t := by
        have z : (ks.map (·.1))[i]? = some k := by rw [List.getElem?_map, hk]; rfl
        rw [hkeys, List.getElem?_map] at z
        obtain ⟨t, e1, e2⟩ := Option.map_eq_some_iff.mp z
        exact ⟨t, e1, e2.symm⟩
      obtain ⟨b, ns, hval, _, hsq, hlen, hrng⟩ := hline t (List.mem_of_getElem? ht)
      have hsq3 := (lineL b _ (hsq.same cut_le)).same s3
      refine ⟨rfl, ?_⟩
      dsimp only [tYes]
      rw [if_pos rfl]
      have tk : ts.take (i + 1) = ts.take i ++ [t] := by
        rw [List.take_add_one, ht]
        rfl
      have nDH := backL nD
      refine ⟨_, rfl, _, rfl, _, rfl, a, .ref b, rfl, .inl ⟨ks, .inr t, .inr ⟨od, s3 _ _ hHL⟩, rfl, hval.symm⟩, b, _, rfl, hsq3.two, fun lb nlb => ⟨by show 2 ≤ sizeLine; decide, fun T nT => ?_⟩⟩
      have s4 : Same H3 (upd (upd H3 lb (.lst (ns.map V.int))) T (.tup [kV (Sum.inr t), V.ref lb])) := (same_new nlb).trans (same_new nT)
      have e4 : (upd (upd H3 lb (.lst (ns.map V.int))) T (.tup [kV (Sum.inr t), V.ref lb])) lb = some (.lst (ns.map V.int)) := same_new nT _ _ upd_same
      have e5 : (upd (upd H3 lb (.lst (ns.map V.int))) T (.tup [kV (Sum.inr t), V.ref lb])) T = some (.tup [kV (Sum.inr t), V.ref lb]) := upd_same
      have nlbD : (upd HL Dd (.lst [])) lb = none := by
        rw [upd_ne (fun z => by rw [z, hD3] at nlb; cases nlb)]
        exact s3.free nlb
      generalize upd (upd H3 lb (.lst (ns.map V.int))) T (.tup [kV (Sum.inr t), V.ref lb]) = H5 at s4 e4 e5 ⊢
      have s5 := s3.trans s4
      have hD5 := s4 _ _ hD3
      have nDL : HL Dd = none := nD
      have ow : ∀ x o, H5 x = some o → (∀ xs, o ≠ .lst xs) → ∀ o2, (upd H5 Dd o2) x = some o := fun x o e n o2 => by
        rw [upd_ne (fun z => by rw [z, hD5] at e; exact n _ (Option.some.inj e).symm)]
        exact e
      refine ⟨_, hD5, by rw [List.length_map]; exact small1000 (by omega), same_own nDL s5, ps ++ [T], kvs ++ [(.inr t, .ref lb)], ws ++ [(t, ns)], by rw [upd_same, List.map_append]; rfl, ?_, ?_, by rw [List.length_append, hl3]; rfl⟩
      · refine Paired.snoc (Paired.mono (fun p kv e => ?_) (hP3.same s4)) ?_
        · exact ow _ _ e (fun _ z => by cases z) _
        · exact ow _ _ e5 (fun _ z => by cases z) _
      · rw [tk]
        have nDd : ∀ {x : Addr}, (upd HL Dd (.lst [])) x = none → x ≠ Dd := fun {x} z e => by rw [e, upd_same] at z; cases z
        refine StepL.snoc ((sL3.same s4).mono fun x xs n e => by rw [upd_ne (nDd n)]; exact e) nlbD ?_ (by omega) hrng
        rw [upd_ne (nDd nlbD)]
        exact e4
    · rintro H5 ⟨s5, ps, kvs, ws, hD5, hP5, sL5, hl5⟩
      rw [List.take_of_length_le (by omega)] at sL5
      have sU := unL H5 s5
      have nDH := backL nD
      have nDa : Dd ≠ a := fun z => by rw [z, ha] at nDH; cases nDH
      have upU : ∀ {x o}, H5 x = some o → (∀ ob u, o ≠ .frz ob u) → (upd H5 a (.dK ks)) x = some o := fun {x o} e n => by
        rw [upd_ne (fun z => by rw [z, s5 _ _ hHL] at e; exact n _ _ (Option.some.inj e).symm)]
        exact e
      have hDu := upU hD5 (fun _ _ z => by cases z)
      have hPu : PairT (upd H5 a (.dK ks)) ps kvs := Paired.mono (fun p kv e => upU e (fun _ _ z => by cases z)) hP5
      have sLu : StepL H (upd H5 a (.dK ks)) many ts kvs ws := (sL5.mono fun x xs _ e => upU e (fun _ _ z => by cases z)).base fun x z => backL (by
        by_cases e : x = Dd
        · rw [e, upd_same] at z; cases z
        · rw [upd_ne e] at z; exact z)
      refine ⟨s5 _ _ hHL, Dd, ps, kvs, rfl, SqL.of hDu, Paired.mono (fun p kv e => SqT.of e) hPu, fun lt nlt => ?_⟩
      have hkk : kvs.map (·.1) = ts.map Sum.inr := sLu.keys
      have ndv : (kvs.map (·.1)).Nodup := by rw [hkk, ← hkeys]; exact ndk
      rw [merge_new kvs [] (by simpa using ndv), List.nil_append]
      have s6 : Same H (upd (upd H5 a (.dK ks)) lt (.dK kvs)) := sU.trans (same_new nlt)
      have e6 : (upd (upd H5 a (.dK ks)) lt (.dK kvs)) lt = some (.dK kvs) := upd_same
      have sL6 := sLu.same (same_new (o := .dK kvs) nlt)
      have nltH : H lt = none := sU.free nlt
      generalize upd (upd H5 a (.dK ks)) lt (.dK kvs) = H6 at s6 e6 sL6 ⊢
      clear hDu hPu sLu upU nDa sU hD5 hP5 sL5
      -- the least key
      refine ⟨_, rfl, a, ks, ts, rfl, .inl (s6 _ _ ha), hkeys, by omega, fun ys po perm srt npo => ?_⟩
      obtain ⟨key, ys', rfl⟩ : ∃ key ys', ys = key :: ys' := by
        cases ys with
        | nil =>
          have z := perm.length_eq
          simp at z
          omega
        | cons y ys => exact ⟨y, ys, rfl⟩
      have hkey : key ∈ ts := perm.mem_iff.mp (List.mem_cons_self ..)
      refine ⟨po, _, 0, _, rfl, rfl, SqL.of upd_same, at_of (j := 0) rfl rfl, _, _, rfl, ?_⟩
      have s7 := s6.trans (same_new (o := .lst ((key :: ys').map V.str)) npo)
      have e7 := same_new (o := .lst ((key :: ys').map V.str)) npo _ _ e6
      have sL7 := sL6.same (same_new (o := .lst ((key :: ys').map V.str)) npo)
      generalize upd H6 po (.lst ((key :: ys').map V.str)) = H7 at s7 e7 sL7 ⊢
      clear s6 e6 sL6
      -- the first line, and all others
      obtain ⟨vb, hvb, mvb⟩ := valV_mem (kvs := kvs) (k := .inr key) (by rw [hkk]; exact List.mem_map.mpr ⟨key, hkey, rfl⟩)
      obtain ⟨_, b, ns, eb, _, nbH, hb7, hlen, hrng⟩ := sL7.mem _ mvb
      cases eb
      have lkv : kvs.length ≤ 3 := by
        have z := congrArg List.length hkk
        rw [List.length_map, List.length_map] at z
        omega
      have hmemk : ∀ H9 : Hp, (∀ x xs, H x = none → H7 x = some (.lst xs) → H9 x = some (.lst xs)) → ∀ p ∈ kvs, kSm (some p.1) ∧ Isx (cut d l H9) p.2 := fun H9 k p hp => by
        obtain ⟨t, x, ns2, rfl, ht, nx, ex, lx, _⟩ := sL7.mem p hp
        exact ⟨smt t ht, isx_ints (cut_at (k x _ nx ex) (off nx).1 (off nx).2) (by omega)⟩
      -- something odd
      refine ⟨_, rfl, _, rfl, by show 1 ≤ sizeLine; decide, fun z nz => ?_⟩
      have s8 := s7.trans (same_new (o := .lst [.int 0]) nz)
      have e8 := same_new (o := .lst [.int 0]) nz _ _ e7
      have k8 : ∀ x xs, H x = none → H7 x = some (.lst xs) → (upd H7 z (.lst [.int 0])) x = some (.lst xs) := fun x xs _ e => same_new nz _ _ e
      have z8 : (upd H7 z (.lst [.int 0])) z = some (.lst [.int 0]) := upd_same
      have zb : b ≠ z := ne_of_none hb7 nz
      have zlt : lt ≠ z := ne_of_none e7 nz
      have nzH := s7.free nz
      generalize upd H7 z (.lst [.int 0]) = H8 at s8 e8 k8 z8 ⊢
      refine ⟨_, _, rfl, rfl, ⟨by decide, by decide, by decide⟩, by show 9 ≤ sizeLine; decide, fun po2 npo2 => ?_⟩
      refine ⟨d, l, c, po2, _, rfl, (D.same s8).new npo2, upd_same, (off (s8.free npo2)).2, Nat.succ_pos _, (by show 9 ≤ 1000; decide), fun jx x H10 hx D10 B10 => ?_⟩
      have hx : (∀ Hx, Isx Hx x) ∧ (∀ a, x ≠ .ref a) ∨ x = .ref z := by
        have hm := List.mem_of_getElem? hx
        simp only [List.mem_cons, List.not_mem_nil, or_false] at hm
        rcases hm with h | h | h | h | h | h | h | h | h
        · exact .inl ⟨fun _ => h ▸ isx_non, fun _ w => by rw [h] at w; cases w⟩
        · exact .inl ⟨fun _ => h ▸ isx_bl, fun _ w => by rw [h] at w; cases w⟩
        · exact .inl ⟨fun _ => h ▸ isx_int, fun _ w => by rw [h] at w; cases w⟩
        · exact .inl ⟨fun _ => h ▸ isx_int, fun _ w => by rw [h] at w; cases w⟩
        · exact .inl ⟨fun _ => h ▸ isx_int, fun _ w => by rw [h] at w; cases w⟩
        · exact .inl ⟨fun _ => h ▸ isx_int, fun _ w => by rw [h] at w; cases w⟩
        · exact .inl ⟨fun _ => h ▸ isx_str (by decide) (by decide +kernel), fun _ w => by rw [h] at w; cases w⟩
        · exact .inr h
        · exact .inl ⟨fun _ => h ▸ isx_int, fun _ w => by rw [h] at w; cases w⟩
      have B10' : But d l H H10 := (But.of (s8.trans (same_new npo2))).trans B10
      have k10 : ∀ x xs, H x = none → H7 x = some (.lst xs) → H10 x = some (.lst xs) := fun x xs n e => B10 _ _ (same_new npo2 _ _ (k8 x xs n e)) (off n).1 (off n).2
      have e10 := B10 _ _ (same_new npo2 _ _ e8) (off nltH).1 (off nltH).2
      have z10 := B10 _ _ (same_new npo2 _ _ z8) (off nzH).1 (off nzH).2
      clear B10 npo2
      refine ⟨_, rfl, d, l, c, 7, rfl, D10, by decide, by decide, fun way H11 w0 w1 D11 B11 => ?_⟩
      have B' := B10'.trans B11
      have k11 : ∀ x xs, H x = none → H7 x = some (.lst xs) → H11 x = some (.lst xs) := fun x xs n e => B11 _ _ (k10 x xs n e) (off n).1 (off n).2
      have e11 := B11 _ _ e10 (off nltH).1 (off nltH).2
      have z11 := B11 _ _ z10 (off nzH).1 (off nzH).2
      clear k10 e10 z10 B10' B11 D10
      have dg : ∀ {H9 : Hp}, H9 lt = some (.dK kvs) → DGet H9 lt (.str key) (some (.ref b)) := fun {H9} e => hvb ▸ DGet.k (k := .inr key) e
      have xok : ∀ H9 : Hp, H9 z = some (.lst [.int 0]) → Isx (cut d l H9) x := fun H9 e => by
        rcases hx with ⟨h, _⟩ | h
        · exact h _
        · rw [h]
          exact isx_ints (ns := [0]) (cut_at e (off nzH).1 (off nzH).2) (by decide)
      have plain : ∀ H9 : Hp, H9 lt = some (.dK kvs) → (∀ x xs, H x = none → H7 x = some (.lst xs) → H9 x = some (.lst xs)) → Fst P w (cut d l H9) (.ref lt) := fun H9 e k =>
        dct_fst (cut_at e (off nltH).1 (off nltH).2) ndv (isx_dct (cut_at e (off nltH).1 (off nltH).2) (by omega) (hmemk H9 k))
      have stK : ∀ {H9 : Hp} {o : HO}, H9 lt = some (.dK kvs) → (∀ x xs, H x = none → H7 x = some (.lst xs) → H9 x = some (.lst xs)) → ∀ x xs, H x = none → H7 x = some (.lst xs) → (upd H9 lt o) x = some (.lst xs) := fun {H9 o} e k x xs n e2 => by
        have e3 := k x xs n e2
        rw [upd_ne (ne_of e3 e (by intro z; cases z))]
        exact e3
      have stD : ∀ H9 kk vv, H9 lt = some (.dK kvs) → (∀ x xs, H x = none → H7 x = some (.lst xs) → H9 x = some (.lst xs)) → kSm (some kk) → Isx (cut d l (upd H9 lt (.dK (putK kvs kk vv)))) vv → Fst P w (cut d l (upd H9 lt (.dK (putK kvs kk vv)))) (.ref lt) := fun H9 kk vv e k hk hv => by
        have e2 : cut d l (upd H9 lt (.dK (putK kvs kk vv))) lt = some (.dK (putK kvs kk vv)) := cut_at upd_same (off nltH).1 (off nltH).2
        have z := length_putK kvs kk vv
        refine dct_fst e2 (nodup_putK ndv) (isx_dct e2 (by omega) fun p hp => ?_)
        rcases mem_putK hp with rfl | hp
        · exact ⟨hk, hv⟩
        · exact hmemk _ (stK e k) p hp
      have hgq : ∀ {H9 : Hp}, But d l H H9 → SqL K H9 ag (gs.map V.int) ∨ SqT K H9 ag (gs.map V.int) := fun B => (hsqg.same (B.cut.trans cut_le)).two
      have gg : ∀ {H9 : Hp}, But d l H H9 → Gst (cut d l H9) (.ref ag) := fun B => Gst.same ⟨⟨_, hg⟩, tg⟩ B.cut
      refine ⟨_, rfl, rfl, _, rfl, ?_⟩
      cases decide (V.int way = V.int 0) with
      | true =>
        refine iteT ⟨_, rfl, _, rfl, lt, _, rfl, dg e11, _, rfl, _, rfl, by show 8 ≤ sizeLine; decide, fun po3 npo3 => ?_⟩
        refine ⟨d, l, c, po3, _, rfl, D11.new npo3, upd_same, (off (B'.back D11 npo3)).2, Nat.succ_pos _, (by show 8 ≤ 1000; decide), fun jy y H12 hy D12 B12 => ⟨lt, rfl, ?_⟩⟩
        have B2 := B'.trans ((But.new npo3).trans B12)
        have k12 : ∀ x xs, H x = none → H7 x = some (.lst xs) → H12 x = some (.lst xs) := fun x xs n e => B12 _ _ (same_new npo3 _ _ (k11 x xs n e)) (off n).1 (off n).2
        have e12 := B12 _ _ (same_new npo3 _ _ e11) (off nltH).1 (off nltH).2
        have hy' : y = .non ∨ ∃ kk : Key, y = kV kk ∧ kSm (some kk) := by
          have hm := List.mem_of_getElem? hy
          simp only [List.mem_cons, List.not_mem_nil, or_false] at hm
          rcases hm with h | h | h | h | h | h | h | h
          · exact .inr ⟨.inr "t", h, by decide, by decide +kernel⟩
          · exact .inr ⟨.inr "A", h, by decide, by decide +kernel⟩
          · exact .inr ⟨.inr "sevenss", h, by decide, by decide +kernel⟩
          · exact .inr ⟨.inr "", h, by decide, by decide +kernel⟩
          · exact .inr ⟨.inr "q", h, by decide, by decide +kernel⟩
          · exact .inr ⟨.inl 5, h, trivial⟩
          · exact .inl h
          · exact .inr ⟨.inr "a1", h, by decide, by decide +kernel⟩
        rcases hy' with rfl | ⟨kk, rfl, hkk2⟩
        · refine .inr ⟨kvs, rfl, e12, small1000 (by omega), fun ob ks2 hsys ndf nin kin klen => ?_⟩
          have B3 : But d l H (upd H12 lt (ndO lt ob)) := B2.own nltH
          have f3 : Fst P w (cut d l (upd H12 lt (ndO lt ob))) (.ref lt) := by
            refine .inr ⟨lt, ks2, rfl, ⟨⟨ob, cut_at upd_same (off nltH).1 (off nltH).2, hsys, ndf⟩, nin, fun k hk => ?_, by omega⟩⟩
            cases k with
            | none => trivial
            | some k =>
              obtain ⟨p, hp, e⟩ := List.mem_map.mp (kin k hk)
              rw [← e]
              exact (hmemk _ k12 p hp).1
          refine ⟨_, rfl, _, rfl, ag, _, rfl, hgq B3, fun lg nlg => ⟨by show 2 ≤ sizeLine; decide, fun T nT => fin1 _ _ T lg (D12.own D nltH) B3 f3 nlg nT⟩⟩
        · refine .inl ⟨_, DPut.k (k := kk) e12 (small1000 (by omega)), ?_⟩
          have B3 : But d l H (upd H12 lt (.dK (putK kvs kk (.ref b)))) := B2.own nltH
          have f3 := stD H12 kk (.ref b) e12 k12 hkk2 (isx_ints (cut_at (stK e12 k12 _ _ nbH hb7) (off nbH).1 (off nbH).2) (by omega))
          exact ⟨_, rfl, _, rfl, ag, _, rfl, hgq B3, fun lg nlg => ⟨by show 2 ≤ sizeLine; decide, fun T nT => fin1 _ _ T lg (D12.own D nltH) B3 f3 nlg nT⟩⟩
      | false =>
      refine iteF ⟨_, rfl, rfl, _, rfl, ?_⟩
      cases decide (V.int way = V.int 1) with
      | true =>
        refine iteT ⟨_, rfl, _, rfl, lt, _, rfl, dg e11, _, rfl, by show 1 ≤ sizeLine; decide, fun r1 nr1 => ?_⟩
        have s12 : Same H11 (upd H11 r1 (.lst [x])) := same_new nr1
        have q1 : (upd H11 r1 (.lst [x])) r1 = some (.lst [x]) := upd_same
        generalize upd H11 r1 (.lst [x]) = H12 at s12 q1 ⊢
        refine ⟨b, r1, _, _, rfl, rfl, s12 _ _ (k11 _ _ nbH hb7), q1, by rw [List.length_map]; exact small1000 (by omega), fun r2 nr2 => ?_⟩
        have s13 := s12.trans (same_new (o := .lst (ns.map V.int ++ [x])) nr2)
        have q2 : (upd H12 r2 (.lst (ns.map V.int ++ [x]))) r2 = some (.lst (ns.map V.int ++ [x])) := upd_same
        have nr2H : H r2 = none := B'.back D11 (s12.free nr2)
        generalize upd H12 r2 (.lst (ns.map V.int ++ [x])) = H13 at s13 q2 ⊢
        have D13 := D11.same s13
        have B13 := B'.trans (But.of s13)
        have k13 : ∀ x xs, H x = none → H7 x = some (.lst xs) → H13 x = some (.lst xs) := fun x xs n e => s13 _ _ (k11 x xs n e)
        have e13 := s13 _ _ e11
        refine ⟨_, rfl, _, rfl, lt, _, rfl, DPut.k (k := .inr key) e13 (small1000 (by omega)), ?_⟩
        have B3 : But d l H (upd H13 lt (.dK (putK kvs (.inr key) (.ref r2)))) := B13.own nltH
        have ow : ∀ {y xs}, H13 y = some (.lst xs) → (upd H13 lt (.dK (putK kvs (.inr key) (.ref r2)))) y = some (.lst xs) := fun {y xs} e => by
          rw [upd_ne (ne_of e e13 (by intro z; cases z))]
          exact e
        have f3 := stD H13 (.inr key) (.ref r2) e13 k13 (smt key hkey) (isx_lst (cut_at (ow q2) (off nr2H).1 (off nr2H).2) (by rw [List.length_append, List.length_map]; show ns.length + 1 ≤ 900; omega) fun y hy => by
          rcases List.mem_append.mp hy with h | h
          · obtain ⟨i, _, rfl⟩ := List.mem_map.mp h
            exact isx_int
          · rw [List.mem_singleton.mp h]
            exact xok _ (ow (s13 _ _ z11)))
        exact ⟨_, rfl, _, rfl, ag, _, rfl, hgq B3, fun lg nlg => ⟨by show 2 ≤ sizeLine; decide, fun T nT => fin1 _ _ T lg (D13.own D nltH) B3 f3 nlg nT⟩⟩
      | false =>
      refine iteF ⟨_, rfl, rfl, _, rfl, ?_⟩
      cases decide (V.int way = V.int 2) with
      | true =>
        refine iteT ⟨_, rfl, _, rfl, _, rfl, lt, _, rfl, dg e11, _, rfl, _, rfl, _, rfl, lt, _, rfl, dg e11, b, _, rfl, .inl (SqL.of (k11 _ _ nbH hb7)), ?_⟩
        rw [List.length_map]
        refine ⟨d, l, c, _, rfl, D11, by omega, by omega, fun j H12 j0 j1 D12 B12 => ?_⟩
        have B2 := B'.trans B12
        have k12 : ∀ x xs, H x = none → H7 x = some (.lst xs) → H12 x = some (.lst xs) := fun x xs n e => B12 _ _ (k11 x xs n e) (off n).1 (off n).2
        have e12 := B12 _ _ e11 (off nltH).1 (off nltH).2
        have z12 := B12 _ _ z11 (off nzH).1 (off nzH).2
        have hb12 := k12 _ _ nbH hb7
        refine ⟨b, _, j, j.toNat, rfl, rfl, hb12, by unfold ixN; rw [if_pos j0, if_pos (by rw [List.length_map]; omega)], ?_⟩
        have B3 : But d l H (upd H12 b (.lst ((ns.map V.int).set j.toNat x))) := B2.own nbH
        have e3 : (upd H12 b (.lst ((ns.map V.int).set j.toNat x))) lt = some (.dK kvs) := by
          rw [upd_ne (ne_of e12 hb12 (by intro z; cases z))]
          exact e12
        have z3 : (upd H12 b (.lst ((ns.map V.int).set j.toNat x))) z = some (.lst [.int 0]) := by
          rw [upd_ne zb.symm]
          exact z12
        have x3 := xok _ z3
        have f3 : Fst P w (cut d l (upd H12 b (.lst ((ns.map V.int).set j.toNat x)))) (.ref lt) := by
          have e4 := cut_at e3 (off nltH).1 (off nltH).2
          refine dct_fst e4 ndv (isx_dct e4 (by omega) fun p hp => ?_)
          obtain ⟨t, y, ns2, rfl, ht, ny, ey, ly, _⟩ := sL7.mem p hp
          refine ⟨smt t ht, ?_⟩
          by_cases hyb : y = b
          · subst hyb
            refine isx_lst (cut_at upd_same (off ny).1 (off ny).2) (by rw [List.length_set, List.length_map]; omega) fun y hy => ?_
            rcases List.mem_or_eq_of_mem_set hy with h | h
            · obtain ⟨i, _, rfl⟩ := List.mem_map.mp h
              exact isx_int
            · rw [h]
              exact x3
          · exact isx_ints (cut_at (by rw [upd_ne hyb]; exact k12 _ _ ny ey) (off ny).1 (off ny).2) (by omega)
        exact ⟨_, rfl, _, rfl, ag, _, rfl, hgq B3, fun lg nlg => ⟨by show 2 ≤ sizeLine; decide, fun T nT => fin1 _ _ T lg (D12.own D nbH) B3 f3 nlg nT⟩⟩
      | false =>
      refine iteF ⟨_, rfl, rfl, _, rfl, ?_⟩
      cases decide (V.int way = V.int 3) with
      | true =>
        refine iteT ⟨_, rfl, _, rfl, _, rfl, lt, _, rfl, dg e11, b, _, rfl, .inl ⟨SqL.of (k11 _ _ nbH hb7), fun tp ntp => ?_⟩⟩
        have s1 : Same H11 (upd H11 tp (.tup (ns.map V.int))) := same_new ntp
        have q1 : (upd H11 tp (.tup (ns.map V.int))) tp = some (.tup (ns.map V.int)) := upd_same
        have nH1 : H tp = none := B'.back D11 ntp
        generalize upd H11 tp (.tup (ns.map V.int)) = G1 at s1 q1 ⊢
        refine ⟨Nat.zero_le _, fun e0 ne0 => ?_⟩
        have s2 : Same G1 (upd G1 e0 (.lst [])) := same_new ne0
        have q2 : (upd G1 e0 (.lst [])) e0 = some (.lst []) := upd_same
        have nH2 : H e0 = none := B'.back D11 (s1.free ne0)
        generalize upd G1 e0 (.lst []) = G2 at s2 q2 ⊢
        have t2 := s1.trans s2
        refine ⟨_, rfl, _, rfl, lt, _, rfl, dg (t2 _ _ e11), b, 2, _, rfl, rfl, t2 _ _ (k11 _ _ nbH hb7), by decide, by decide, by rw [List.length_map]; exact Nat.le_of_lt (small1000 (n := ns.length * 2) (by omega)), fun r nr => ?_⟩
        have s3 : Same G2 (upd G2 r (.lst (List.replicate (2 : Int).toNat (ns.map V.int)).flatten)) := same_new nr
        have q3 : (upd G2 r (.lst (List.replicate (2 : Int).toNat (ns.map V.int)).flatten)) r = some (.lst (List.replicate (2 : Int).toNat (ns.map V.int)).flatten) := upd_same
        have nH3 : H r = none := B'.back D11 (t2.free nr)
        generalize upd G2 r (.lst (List.replicate (2 : Int).toNat (ns.map V.int)).flatten) = G3 at s3 q3 ⊢
        have t3 := t2.trans s3
        refine fun dq ndq => ⟨upd_same, [(.inl 0, .int 0)], rfl, by decide, ?_⟩
        have s4 : Same G3 (upd (upd G3 dq (.dK [])) dq (.dK (mergeK [] [(.inl 0, .int 0)]))) := same_own ndq (same_new ndq)
        have q4 : (upd (upd G3 dq (.dK [])) dq (.dK (mergeK [] [(.inl 0, .int 0)]))) dq = some (.dK [(.inl 0, .int 0)]) := upd_same
        have nH4 : H dq = none := B'.back D11 (t3.free ndq)
        generalize upd (upd G3 dq (.dK [])) dq (.dK (mergeK [] [(.inl 0, .int 0)])) = G4 at s4 q4 ⊢
        have t4 := t3.trans s4
        refine ⟨by show 6 ≤ sizeLine; decide, fun po3 npo3 => ?_⟩
        have t5 := fun o => t4.trans (same_new (o := o) npo3)
        refine ⟨d, l, c, po3, _, rfl, (D11.same t4).new npo3, upd_same, (off (B'.back D11 (t4.free npo3))).2, Nat.succ_pos _, (Nat.le_trans (Nat.le_of_ble_eq_true rfl : _ ≤ 6) (by decide)), fun jy y H12 hy D12 B12 => ?_⟩
        have up : ∀ {y o}, H y = none → G4 y = some o → H12 y = some o := fun {y o} n e => B12 _ _ (same_new npo3 _ _ e) (off n).1 (off n).2
        have B2 := (B'.trans (But.of (t5 _))).trans B12
        have k12 : ∀ x xs, H x = none → H7 x = some (.lst xs) → H12 x = some (.lst xs) := fun x xs n e => up n (t4 _ _ (k11 x xs n e))
        have e12 := up nltH (t4 _ _ e11)
        refine ⟨_, rfl, _, rfl, lt, _, rfl, DPut.k (k := .inr key) e12 (small1000 (by omega)), ?_⟩
        have ow : ∀ {u o}, H12 u = some o → (∀ ks, o ≠ .dK ks) → (upd H12 lt (.dK (putK kvs (.inr key) y))) u = some o := fun {u o} e n => by
          rw [upd_ne (fun z => by rw [z, e12] at e; exact n _ (Option.some.inj e).symm)]
          exact e
        have ow2 : (upd H12 lt (.dK (putK kvs (.inr key) y))) dq = some (.dK [(.inl 0, .int 0)]) := by
          rw [upd_ne (ne_of_none (t3 _ _ e11) ndq).symm]
          exact up nH4 q4
        have vy : Isx (cut d l (upd H12 lt (.dK (putK kvs (.inr key) y)))) y := by
          have hm := List.mem_of_getElem? hy
          simp only [List.mem_cons, List.not_mem_nil, or_false] at hm
          rcases hm with h | h | h | h | h | h
          · have g1 := ow (up nH1 ((s2.trans (s3.trans s4)) _ _ q1)) (fun _ z => by cases z)
            generalize upd H12 lt (.dK (putK kvs (.inr key) y)) = H13 at g1 ⊢
            rw [h]
            refine isx_tup (.inl (cut_at g1 (off nH1).1 (off nH1).2)) (by rw [List.length_map]; omega) fun u hu => ?_
            obtain ⟨i, _, rfl⟩ := List.mem_map.mp hu
            exact isx_int
          · rw [h]; exact isx_non
          · rw [h]; exact isx_str (by decide) (by decide +kernel)
          · have g1 := ow (up nH2 ((s3.trans s4) _ _ q2)) (fun _ z => by cases z)
            generalize upd H12 lt (.dK (putK kvs (.inr key) y)) = H13 at g1 ⊢
            rw [h]
            exact isx_lst (cut_at g1 (off nH2).1 (off nH2).2) (by decide) fun u hu => by cases hu
          · have g1 := ow (up nH3 (s4 _ _ q3)) (fun _ z => by cases z)
            generalize upd H12 lt (.dK (putK kvs (.inr key) y)) = H13 at g1 ⊢
            rw [h]
            refine isx_lst (cut_at g1 (off nH3).1 (off nH3).2) ?_ fun u hu => ?_
            · show ([ns.map V.int, ns.map V.int].flatten).length ≤ 900
              simp
              omega
            · have hu : u ∈ [ns.map V.int, ns.map V.int].flatten := hu
              simp at hu
              obtain ⟨i, _, rfl⟩ := hu
              exact isx_int
          · have g1 := ow2
            generalize upd H12 lt (.dK (putK kvs (.inr key) y)) = H13 at g1 ⊢
            rw [h]
            exact isx_dct (cut_at g1 (off nH4).1 (off nH4).2) (by decide) fun p hp => by
              rw [List.mem_singleton.mp hp]
              exact ⟨trivial, isx_int⟩
        have B3 : But d l H (upd H12 lt (.dK (putK kvs (.inr key) y))) := B2.own nltH
        have f3 := stD H12 (.inr key) y e12 k12 (smt key hkey) vy
        exact ⟨_, rfl, _, rfl, ag, _, rfl, hgq B3, fun lg nlg => ⟨by show 2 ≤ sizeLine; decide, fun T nT => fin1 _ _ T lg (D12.own D nltH) B3 f3 nlg nT⟩⟩
      | false =>
      refine iteF ⟨_, rfl, rfl, _, rfl, ?_⟩
      cases decide (V.int way = V.int 4) with
      | true =>
        refine iteT ⟨_, rfl, _, rfl, ag, _, rfl, hgq B', fun l1 nl1 => ?_⟩
        have s1 : Same H11 (upd H11 l1 (.lst (gs.map V.int))) := same_new nl1
        have q1 : (upd H11 l1 (.lst (gs.map V.int))) l1 = some (.lst (gs.map V.int)) := upd_same
        generalize upd H11 l1 (.lst (gs.map V.int)) = G1 at s1 q1 ⊢
        refine ⟨_, rfl, by show 1 ≤ sizeLine; decide, fun l2 nl2 => ?_⟩
        have s2 : Same G1 (upd G1 l2 (.lst [x])) := same_new nl2
        have q2 : (upd G1 l2 (.lst [x])) l2 = some (.lst [x]) := upd_same
        generalize upd G1 l2 (.lst [x]) = G2 at s2 q2 ⊢
        refine ⟨l1, l2, _, _, rfl, rfl, s2 _ _ q1, q2, by rw [List.length_map]; exact small1000 (by omega), fun l3 nl3 => ⟨by show 2 ≤ sizeLine; decide, fun T nT => ?_⟩⟩
        have s3 : Same H11 (upd G2 l3 (.lst (gs.map V.int ++ [x]))) := (s1.trans s2).trans (same_new nl3)
        have q3 : (upd G2 l3 (.lst (gs.map V.int ++ [x]))) l3 = some (.lst (gs.map V.int ++ [x])) := upd_same
        have nH3 : H l3 = none := B'.back D11 ((s1.trans s2).free nl3)
        generalize upd G2 l3 (.lst (gs.map V.int ++ [x])) = G3 at s3 q3 nT ⊢
        refine fin0 _ _ _ T (D11.same s3) (B'.trans (But.of s3)) nT (plain G3 (s3 _ _ e11) fun x xs n e => s3 _ _ (k11 x xs n e)) ?_
        have q4 := cut_at q3 (off nH3).1 (off nH3).2
        refine lst_gst q4 (isx_lst q4 (by rw [List.length_append, List.length_map]; show gs.length + 1 ≤ 900; omega) fun y hy => ?_)
        rcases List.mem_append.mp hy with h | h
        · obtain ⟨i, _, rfl⟩ := List.mem_map.mp h
          exact isx_int
        · rw [List.mem_singleton.mp h]
          exact xok _ (s3 _ _ z11)
      | false =>
      refine iteF ⟨_, rfl, rfl, _, rfl, ?_⟩
      cases decide (V.int way = V.int 5) with
      | true =>
        refine iteT ⟨_, rfl, _, rfl, _, rfl, ag, _, rfl, hgq B', fun tr G1 s1 htr => ?_⟩
        have gtr : ∀ H9 : Hp, But d l G1 H9 → Gst (cut d l H9) (.ref tr) := fun H9 B9 => by
          rcases htr with ⟨rfl, rfl, _⟩ | ⟨n, ob, e1, e2⟩
          · exact gg (B'.trans B9)
          · have nn := off (B'.back D11 n)
            exact (frt_gst ⟨ob, cut_at e1 nn.1 nn.2, e2⟩ (by omega)).same B9.cut
        refine fun dq ndq => ?_
        have s2 : Same G1 (upd G1 dq (.dK [])) := same_new ndq
        have q2 : (upd G1 dq (.dK [])) dq = some (.dK []) := upd_same
        have nH2 : H dq = none := B'.back D11 (s1.free ndq)
        generalize upd G1 dq (.dK []) = G2 at s2 q2 ⊢
        have t2 := s1.trans s2
        refine ⟨_, rfl, ag, _, rfl, hgq (B'.trans (But.of t2)), fun l1 nl1 => ?_⟩
        have s3 : Same G2 (upd G2 l1 (.lst (gs.map V.int))) := same_new nl1
        have q3 : (upd G2 l1 (.lst (gs.map V.int))) l1 = some (.lst (gs.map V.int)) := upd_same
        generalize upd G2 l1 (.lst (gs.map V.int)) = G3 at s3 q3 ⊢
        have t3 := t2.trans s3
        refine ⟨l1, 2, _, rfl, rfl, q3, by decide, by decide, by rw [List.length_map]; exact Nat.le_of_lt (small1000 (n := gs.length * 2) (by omega)), fun r nr => ?_⟩
        have s4 : Same G3 (upd G3 r (.lst (List.replicate (2 : Int).toNat (gs.map V.int)).flatten)) := same_new nr
        have q4 : (upd G3 r (.lst (List.replicate (2 : Int).toNat (gs.map V.int)).flatten)) r = some (.lst (List.replicate (2 : Int).toNat (gs.map V.int)).flatten) := upd_same
        have nH4 : H r = none := B'.back D11 (t3.free nr)
        generalize upd G3 r (.lst (List.replicate (2 : Int).toNat (gs.map V.int)).flatten) = G4 at s4 q4 ⊢
        have t4 := t3.trans s4
        refine ⟨by show 6 ≤ sizeLine; decide, fun po3 npo3 => ?_⟩
        have t5 := fun o => t4.trans (same_new (o := o) npo3)
        refine ⟨d, l, c, po3, _, rfl, (D11.same t4).new npo3, upd_same, (off (B'.back D11 (t4.free npo3))).2, Nat.succ_pos _, (Nat.le_trans (Nat.le_of_ble_eq_true rfl : _ ≤ 6) (by decide)), fun jy y H12 hy D12 B12 => ⟨by show 2 ≤ sizeLine; decide, fun T nT => ?_⟩⟩
        have up : ∀ {y o}, H y = none → G4 y = some o → H12 y = some o := fun {y o} n e => B12 _ _ (same_new npo3 _ _ e) (off n).1 (off n).2
        have B2 := (B'.trans (But.of (t5 _))).trans B12
        have Bg : But d l G1 H12 := (But.of (s2.trans (s3.trans (s4.trans (same_new npo3))))).trans B12
        refine fin0 _ _ _ T D12 B2 nT (plain H12 (up nltH (t4 _ _ e11)) fun x xs n e => up n (t4 _ _ (k11 x xs n e))) ?_
        have hm := List.mem_of_getElem? hy
        simp only [List.mem_cons, List.not_mem_nil, or_false] at hm
        rcases hm with h | h | h | h | h | h
        · rw [h]; exact flat_gst isx_non fun _ z => by cases z
        · rw [h]; exact flat_gst (isx_str (by decide) (by decide +kernel)) fun _ z => by cases z
        · rw [h]; exact gtr H12 Bg
        · rw [h]
          have g1 := cut_at (up nH2 ((s3.trans s4) _ _ q2)) (off nH2).1 (off nH2).2
          exact dct_gst g1 (isx_dct g1 (by decide) fun p hp => by cases hp)
        · rw [h]
          have g1 := cut_at (up nH4 q4) (off nH4).1 (off nH4).2
          refine lst_gst g1 (isx_lst g1 ?_ fun u hu => ?_)
          · show ([gs.map V.int, gs.map V.int].flatten).length ≤ 900
            simp
            omega
          · have hu : u ∈ [gs.map V.int, gs.map V.int].flatten := hu
            simp at hu
            obtain ⟨i, _, rfl⟩ := hu
            exact isx_int
        · rw [h]; exact flat_gst isx_int fun _ z => by cases z
      | false =>
        refine iteF ⟨_, rfl, fun dq ndq => ?_⟩
        have s1 : Same H11 (upd H11 dq (.dK [])) := same_new ndq
        have q1 : (upd H11 dq (.dK [])) dq = some (.dK []) := upd_same
        have nH1 : H dq = none := B'.back D11 ndq
        generalize upd H11 dq (.dK []) = G1 at s1 q1 ⊢
        refine ⟨Nat.zero_le _, fun e0 ne0 => ?_⟩
        have s2 : Same G1 (upd G1 e0 (.lst [])) := same_new ne0
        have q2 : (upd G1 e0 (.lst [])) e0 = some (.lst []) := upd_same
        have nH2 : H e0 = none := B'.back D11 (s1.free ne0)
        generalize upd G1 e0 (.lst []) = G2 at s2 q2 ⊢
        have t2 := s1.trans s2
        refine fun d2 nd2 => ⟨_, rfl, by show 1 ≤ sizeLine; decide, fun l1 nl1 => ?_⟩
        have s3 : Same (upd G2 d2 (.dK [])) (upd (upd G2 d2 (.dK [])) l1 (.lst [.int 0])) := same_new nl1
        have q3 : (upd (upd G2 d2 (.dK [])) l1 (.lst [.int 0])) l1 = some (.lst [.int 0]) := upd_same
        have q3d : (upd (upd G2 d2 (.dK [])) l1 (.lst [.int 0])) d2 = some (.dK []) := s3 _ _ upd_same
        have u3 : Same G2 (upd (upd G2 d2 (.dK [])) l1 (.lst [.int 0])) := (same_new nd2).trans s3
        have nH3 : H l1 = none := B'.back D11 (t2.free ((same_new nd2).free nl1))
        have nH4 : H d2 = none := B'.back D11 (t2.free nd2)
        generalize upd (upd G2 d2 (.dK [])) l1 (.lst [.int 0]) = G3 at u3 q3 q3d ⊢
        refine ⟨q3d, [(.inr key, .ref l1)], rfl, by show 1 ≤ 15; decide, ?_⟩
        have s4 : Same G2 (upd G3 d2 (.dK (mergeK [] [(.inr key, .ref l1)]))) := same_own nd2 u3
        have q4 : (upd G3 d2 (.dK (mergeK [] [(.inr key, .ref l1)]))) d2 = some (.dK [(.inr key, .ref l1)]) := upd_same
        have q5 : (upd G3 d2 (.dK (mergeK [] [(.inr key, .ref l1)]))) l1 = some (.lst [.int 0]) := by
          rw [upd_ne (ne_of q3 q3d (by intro z; cases z))]
          exact q3
        generalize upd G3 d2 (.dK (mergeK [] [(.inr key, .ref l1)])) = G4 at s4 q4 q5 ⊢
        have t4 := t2.trans s4
        refine ⟨by show 5 ≤ sizeLine; decide, fun po3 npo3 => ?_⟩
        have t5 := fun o => t4.trans (same_new (o := o) npo3)
        refine ⟨d, l, c, po3, _, rfl, (D11.same t4).new npo3, upd_same, (off (B'.back D11 (t4.free npo3))).2, Nat.succ_pos _, (Nat.le_trans (Nat.le_of_ble_eq_true rfl : _ ≤ 6) (by decide)), fun jy y H12 hy D12 B12 => ⟨_, rfl, by show 2 ≤ sizeLine; decide, fun T nT => ?_⟩⟩
        have up : ∀ {y o}, H y = none → G4 y = some o → H12 y = some o := fun {y o} n e => B12 _ _ (same_new npo3 _ _ e) (off n).1 (off n).2
        have B2 := (B'.trans (But.of (t5 _))).trans B12
        refine fin0 _ _ _ T D12 B2 nT ?_ (gg B2)
        have hm := List.mem_of_getElem? hy
        simp only [List.mem_cons, List.not_mem_nil, or_false] at hm
        rcases hm with h | h | h | h | h
        · rw [h]; exact flat_fst isx_non fun _ z => by cases z
        · rw [h]
          have g1 := cut_at (up nH1 ((s2.trans s4) _ _ q1)) (off nH1).1 (off nH1).2
          exact dct_fst g1 List.nodup_nil (isx_dct g1 (by decide) fun p hp => by cases hp)
        · rw [h]
          have g1 := cut_at (up nH2 (s4 _ _ q2)) (off nH2).1 (off nH2).2
          exact lst_fst g1 (isx_lst g1 (by decide) fun p hp => by cases hp)
        · rw [h]
          have g1 := cut_at (up nH4 q4) (off nH4).1 (off nH4).2
          have g2 := cut_at (up nH3 q5) (off nH3).1 (off nH3).2
          exact dct_fst g1 (List.nodup_cons.mpr ⟨by simp, List.nodup_nil⟩) (isx_dct g1 (by show 1 ≤ 900; decide) fun p hp => by
            rw [List.mem_singleton.mp hp]
            exact ⟨smt key hkey, isx_ints (ns := [0]) g2 (by decide)⟩)
        · rw [h]; exact flat_fst (isx_str (by decide) (by decide +kernel)) fun _ z => by cases z
end
end Kn
-- part Pi
set_option maxHeartbeats 8000000
/-! An own instance handed over as rows; a method called by keyword. -/
namespace Kn
open PySem PySem.Spec PyProof.Rows L2 Err
structure PIz (K : PySem.W.Frag) (C : Addr) : Prop where
  cl : Cls K C
  ha : PySem.W.findIn K (.ref C) "__class__" = some (some (.builtin "object.__class__"))
  hn : PySem.W.specialIn K (.builtin "object.__class__") "__get__" = some (some (.builtin "getset_descriptor.__get__"))
  htk : PySem.W.takesIn K (.builtin "object.__class__") = some true
  hm : PySem.W.mroIn K C (.type "object") = some true
  k1 : PySem.W.kitOne K (.ref C) (.type "list") = some false
  k2 : PySem.W.kitOne K (.ref C) (.type "tuple") = some false
def spIsList2 (C : Addr) : Sp := fun vs H Q _ => ∃ p dx fs, vs = [.ref p] ∧ H p = some (.ins C dx fs) ∧ ∀ H', Same H H' → Q (.bl false) H'
def spRows2 (C CR : Addr) : Sp := fun vs H Q E => ∃ p dx fs kd, vs = [.ref kd, .ref p] ∧ H p = some (.ins C dx fs) ∧ ∀ d H', Same H H' → H' d = none → E (.ref CR) (some d) (upd H' d (.xd [("at", .non)]))
def spFits2 (C CR : Addr) : Sp := fun vs H Q E => ∃ p n st gs q dx fs, vs = [.ref p, .ref q] ∧ PatAt C H p n st gs ∧ H q = some (.ins C dx fs) ∧ ∀ d H', Same H H' → H' d = none → E (.ref CR) (some d) (upd H' d (.xd [("at", .non)]))
section
variable {P : Program} {w : World} {K : PySem.W.Frag} {mg : Str → Option Value} {base : Heap}
theorem ok_isList2 {f C : Addr} {fd : FuncData} (F : Fun K "is_list" "is_list" sIsList f fd) (T : PIz K C) (mi : mg "isinstance" = none) (m1 : mg "list" = none) (m2 : mg "tuple" = none) : FnOk P w K mg base CX0 1 f fd ["value"] (spIsList2 C) := by
  have S := scIl
  refine F.ok S (fun vs H Q E h => ?_) (fun cdv A outer s H vs Q E hr h => ?_)
  · obtain ⟨p, dx, fs, rfl, _⟩ := h
    rfl
  · obtain ⟨p, dx, fs, rfl, hp, q⟩ := h
    refine ⟨_, pss_one (ps_ret (pe_callB call_isiT (by rfl) mi PyProof.Rows.boot_isinstance (pa_cons (pv 0) (pa_cons (pe_tup (pa_cons (pe_bltn (v := .ty "list") (by rfl) m1 (by decide +kernel) rfl) (pa_cons (pe_bltn (v := .ty "tuple") (by rfl) m2 (by decide +kernel) rfl) pa_nil))) pa_nil)))), ?_⟩
    refine ⟨_, rfl, by show 2 ≤ sizeLine; decide, fun t nt => ?_⟩
    exact ⟨.ref p, t, _, .ref C, [.type "list", .type "tuple"], false, rfl, upd_same, .cons (.ty _) (.cons (.ty _) .nil), .base (.ins (same_new nt _ _ hp) T.cl T.ha T.hn T.htk T.hm), kitAny_cons T.k1 (fun _ => kitAny_cons T.k2 (fun _ => kitAny_nil) (fun e => by cases e)) (fun e => by cases e), q _ (same_new nt)⟩
theorem ok_rows2 {f f1 f2 C CR : Addr} {fd fd1 fd2 : FuncData} (F : Fun K "checked_rows" "checked_rows" sRows f fd) (G1 : FnOk P w K mg base CX0 1 f1 fd1 ["value"] (spIsList2 C)) (k1 : PySem.W.keepIn K (.ref f1) = true) (b1 : Binds K fd1 ["value"] []) (g1 : mg "is_list" = some (.ref f1))
    (G2 : FnOk P w K mg base CX0 2 f2 fd2 ["kinds", "value"] spRow) (k2 : PySem.W.keepIn K (.ref f2) = true) (b2 : Binds K fd2 ["kinds", "value"] []) (g2 : mg "is_row" = some (.ref f2))
    (T : One P K CR "at") (ms : mg "super" = none) (gR : mg "BadRows" = some (.ref CR)) (kR : PySem.W.keepIn K (.ref CR) = true) (me : mg "enumerate" = none) (ml : mg "list" = none) :
    FnOk P w K mg base (L2.CX P w) 3 f fd ["kinds", "rows"] (spRows2 C CR) := by
  have S := scRs
  refine F.okX S (fun vs H Q E h => ?_) (fun cdv A outer s H vs Q E hr h => ?_)
  · obtain ⟨p, dx, fs, kd, rfl, _⟩ := h
    rfl
  · obtain ⟨p, dx, fs, kd, rfl, hp, hE⟩ := h
    have hu := hu_of hr
    have hr1 := hr.mono (show 1 ≤ 2 by decide)
    have tk : Takes (cxOf (L2.CX P w) P w K mg base NRs "checked_rows" (defScope sRows) f cdv A outer s H E) (fun cls d _ H => E cls d H) := takes_of rfl rfl rfl rfl
    refine ⟨_, pss_cons (ps_if (pt_not (pt_val (pe_call G1 hr1 (by rfl) g1 k1 b1 .nil pass0 (pa_cons (pv 1) pa_nil)))) (pss_one (ps_raise rfl tk (pmk_err T ms hr1 (by rfl) gR kR pe_non))) pss_nil)
      (pss_cons (ps_for (passes_of rfl) rfl (pi_both (pi_enum (by rfl) me (pa_cons (pv 1) pa_nil)) (pi_enumT (by rfl) me (pa_cons (pv 1) pa_nil))) (pg_tup rfl (pgs_cons (pg_name (i := 2) S.nd rfl (.inl rfl)) (pgs_cons (pg_name (i := 3) S.nd rfl (.inl rfl)) pgs_nil)))
        (pss_one (ps_if (pt_not (pt_val (pe_call G2 hr (by rfl) g2 k2 b2 .nil pass0 (pa_cons (pv 0) (pa_cons (pv 3) pa_nil))))) (pss_one (ps_raise rfl tk (pmk_err T ms hr1 (by rfl) gR kR (pv 2)))) pss_nil)))
      (pss_one (ps_ret (pe_callTy call_list_of (by rfl) ml (by decide +kernel) (pa_cons (pv 1) pa_nil))))), ?_⟩
    exact ⟨_, rfl, p, dx, fs, rfl, hp, fun H1 s1 => ⟨_, rfl, iteT fun d nd => hE d H1 s1 nd⟩⟩
theorem ok_fits2 {f C CR f1 f2 : Addr} {fd fd1 fd2 : FuncData} (F : Fun K "fits" "Pattern.fits" sFits f fd) (T : PTxt K C) (G1 : FnOk P w K mg base (L2.CX P w) 3 f1 fd1 ["kinds", "rows"] (spRows2 C CR)) (k1 : PySem.W.keepIn K (.ref f1) = true) (b1 : Binds K fd1 ["kinds", "rows"] []) (g1 : mg "checked_rows" = some (.ref f1))
    (G2 : FnOk P w K mg base CX0 1 f2 fd2 ["self", "rows"] (spAlong C)) (b2 : Binds K fd2 ["self", "rows"] []) (m2 : Meth K C "fits_along" f2) : FnOk P w K mg base (L2.CX P w) 4 f fd ["self", "rows"] (spFits2 C CR) := by
  have S := scFi
  refine F.okX S (fun vs H Q E h => ?_) (fun cdv A outer s H vs Q E hr h => ?_)
  · obtain ⟨p, n, st, gs, q, dx, fs, rfl, _⟩ := h
    rfl
  · obtain ⟨p, n, st, gs, q, dxq, fsq, rfl, hp, hq, hE⟩ := h
    have hr1 := hr.mono (show 1 ≤ 3 by decide)
    have tk : Takes (cxOf (L2.CX P w) P w K mg base NFi "Pattern.fits" (defScope sFits) f cdv A outer s H E) (fun cls d _ H => E cls d H) := takes_of rfl rfl rfl rfl
    refine ⟨_, pss_one (ps_ret (pe_ix ix_list (pe_meth (pv 0) T.cl m2 G2 hr1 b2 .nil pass0 (pa_cons (pe_call G1 hr (by rfl) g1 k1 b1 .nil (passes_call tk fun _ _ _ _ h => h) (pa_cons (pe_fld (pv 0) rfl) (pa_cons (pv 1) pa_nil))) pa_nil)) (pe_un un_neg pe_int) (fun _ _ => rfl))), ?_⟩
    obtain ⟨dx, ds, tg, kvs, h1, h2, h3, h4⟩ := hp.ex
    exact ⟨_, rfl, p, dx, _, rfl, h1, by kernel_rfl, _, rfl, p, C, dx, _, _, rfl, h1, T.cl, T.nS, pf_steps _ _ _, _, rfl, q, dxq, fsq, ds, rfl, hq, hE⟩
end
end Kn
namespace L2
open PySem PySem.Spec PyProof.Rows
def tMethK (C : Addr) (m : Str) (sp : Sp) (E : XK) (ta te : TE) : TE := fun σ H Q => ta σ H fun x H1 => ∃ a dx fs, x = .ref a ∧ H1 a = some (.ins C dx fs) ∧ fs.lookup m = none ∧ te σ H1 fun y H2 => ∃ z, [y] = [z] ∧ sp [.ref a, z] H2 Q E
/-- o.m(k = e): one value, by its name -/
theorem pe_methK {X : Cx} {CX : CXT} {k : Nat} {f C : Addr} {fd : FuncData} {p0 p1 m kn : Str} {sp : Sp} {o e : Expr} {ta te : TE} {E : XK} {apos kpos pos : Pos} {pl : Sem Bool} (he : PE X o ta) (c : Cls X.K C) (hm : Meth X.K C m f) (F : FnOk X.prog X.w X.K X.mg X.base CX k f fd [p0, p1] sp) (hr : Room k X.A)
    (hb : ∀ (s : Shared) (u w : Value), BindsTo s fd ⟨[u], [(kn, w)]⟩ [(p0, u), (p1, w)]) (hx : Passes CX X E) (hv : PE X e te)
    (hall : (backToKw pos (keywordEach [⟨some kn, e, kpos⟩] X.env)).all (·.1.isSome) = true := by rfl) (hks : (backToKw pos (keywordEach [⟨some kn, e, kpos⟩] X.env)).filterMap (·.1) = [kn] := by rfl)
    (hpl : ((backTo pos (starEach [] X.env)).any (·.1) || (backToKw pos (keywordEach [⟨some kn, e, kpos⟩] X.env)).any (·.1.isNone)) = false := by rfl)
    (ht : eval (.Call (.Attribute o m apos) [] [⟨some kn, e, kpos⟩] pos) X.env = (do
      let ov ← eval o X.env
      standAt apos.atName
      let (f, first) ← holding [ov] (getMethod ov m pl)
      callWith pos f first (backTo pos (starEach [] X.env)) (backToKw pos (keywordEach [⟨some kn, e, kpos⟩] X.env))) := by rfl) :
    PE X (.Call (.Attribute o m apos) [] [⟨some kn, e, kpos⟩] pos) (tMethK C m sp E ta te) := by
  refine ⟨fun pins s σ H Q I h => ?_⟩
  refine PySem.W.methodCall_KW (pl := pl) (thn (he.run pins s σ H _ I h) fun u s1 ⟨x, H1, I1, rx, a, dx, fs, ex, ea, l, q⟩ => ?_) ht
  subst ex
  obtain rfl : u = Value.ref a := rx
  refine getmeth_ok I1 ea c hm l ?_
  refine PySem.W.callWith_KW0 (first := [.ref a]) (h₀ := X.base) I.ok.mod.kin hm.kp hall (thn ((pk_cons (kpos := kpos) (nm := some kn) hv pk_nil).run pos pins s1 σ H1 (fun zs H2 => ∃ y, zs = [y] ∧ sp [.ref a, y] H2 Q E) I1 q) fun ws s2 ⟨zs, H2, I2, rz, y, ez, q2⟩ => ⟨I2.kIn, ?_⟩) hpl
  subst ez
  obtain ⟨w, rfl, rw'⟩ := rz.one
  rw [hks]
  refine wpAny_call (codeAny_mono (F.run X.A X.stack s2 H2 ⟨[.ref a], [(kn, w)]⟩ [.ref a, w] [.ref a, y] Q E hr I2.env0 (hb s2 (.ref a) w) (.cons rfl (.cons rw' .nil)) q2) fun r s' hq => ?_)
  cases r with
  | error e => exact hx pins σ H2 s2 e s' I2 hq
  | ok fl =>
    cases fl with
    | ret u => exact I2.after hq
    | next => exact False.elim hq
    | brk => exact False.elim hq
    | cont => exact False.elim hq
end L2
-- part Rr
set_option maxHeartbeats 8000000
namespace Kn
open PySem PySem.Spec PyProof.Rows L2 Err LamX
abbrev sLRight : Stmt := topS 35
abbrev NRr : List Str := ["_law_draw", "_law_made", "_law_model", "_law_sorts_here", "_law_rows_here", "_law_due_here", "_law_bad", "_law_spot", "_law_error", "_law_odd", "_law_other"]
theorem scRr : FnScope NRr ["_law_draw", "_law_made", "_law_model"] (defScope sLRight) := ⟨rfl, rfl, rfl, by decide +kernel, rfl, by decide +kernel, by decide +kernel⟩
/-- a def whose code object is known -/
structure FunC (K : PySem.W.Frag) (x qual : Str) (st : Stmt) (f : Addr) (fd : FuncData) (c : Addr) : Prop where
  ex : ∃ (oc : Value) (od : Option Addr) (kV doc pm : Value) (an : Option Addr) (ct : Value) (osl : Array (Option Value)),
    fd = PySem.W.fnOf x qual (defArgs st) (defBody st) (defScope st) .none kV doc pm an (.ref c) ct ∧ K.lookup f = some ⟨oc, od, .func fd, osl⟩ ∧ PySem.W.codeIn K (.ref c) qual = true
  kp : PySem.W.keepIn K (.ref f) = true
theorem FunC.toFun {K : PySem.W.Frag} {x qual : Str} {st : Stmt} {f c : Addr} {fd : FuncData} (F : FunC K x qual st f fd c) : Fun K x qual st f fd := by
  obtain ⟨oc, od, kV, doc, pm, an, ct, osl, h1, h2, h3⟩ := F.ex
  exact ⟨⟨oc, od, kV, doc, pm, an, .ref c, ct, osl, h1, h2, h3⟩, F.kp⟩
theorem FunC.ok {P : Program} {w : World} {K : PySem.W.Frag} {mg : Str → Option Value} {base : Heap} {x qual : Str} {st : Stmt} {f c : Addr} {fd : FuncData} {N ps : List Str} {k : Nat} {sp : Sp} (F : FunC K x qual st f fd c) (S : FnScope N ps (defScope st)) (len : ∀ vs H Q E, sp vs H Q E → vs.length = ps.length)
    (hbody : ∀ (A : Around) (outer : List Env) (s : Shared) (H : Hp) (vs : List V) (Q : VK) (E : XK), Room k (A.deeper (envOfC qual (defScope st) s.heap.objs.size f (.ref c))) → sp vs H Q E →
      ∃ t, PSs (cxOf CX0 P w K mg base N qual (defScope st) f (.ref c) A outer s H E).nox (defBody st) t ∧ t { nx := fun _ H' => Q .non H', rt := Q } (start N vs) H) : FnOk P w K mg base CX0 (k + 1) f fd ps sp := by
  obtain ⟨oc, od, kV, doc, pm, an, ct, osl, rfl, lk, hcd⟩ := F.ex
  refine fn_of lk hcd S len fun A outer s H vs Q E hr hsp => ?_
  obtain ⟨t, h, q⟩ := hbody A outer s H vs Q E hr hsp
  exact ⟨t, h.nox, q⟩
/-! ### tables -/
theorem tabs_but {T : List (Addr × Str)} {d l c : Addr} {H H' : Hp} (t : Tabs T H) (D : Drw H d l c) (B : But d l H H') : Tabs T H' := fun p hp => by
  obtain ⟨ps, h1, h2, h3⟩ := t p hp
  obtain ⟨⟨r, tt, hd⟩, ⟨ns, hl⟩, _, _⟩ := D
  have keep : ∀ {b : Addr} {o : HO}, H b = some o → (∀ kvs, o ≠ .dK kvs) → (∀ xs, o ≠ .lst xs) → H' b = some o := fun {b o} e n1 n2 => B b o e (fun z => by rw [z, hd] at e; exact n1 _ (Option.some.inj e).symm) (fun z => by rw [z, hl] at e; exact n2 _ (Option.some.inj e).symm)
  refine ⟨ps, keep h1 (fun _ z => by cases z) (fun _ z => by cases z), h2, fun pos cv hc => ?_⟩
  obtain ⟨c0, e1, e2⟩ := h3 pos cv hc
  exact ⟨c0, e1, keep e2 (fun _ z => by unfold CodeO at z; cases z) (fun _ z => by unfold CodeO at z; cases z)⟩
theorem Drw.extN {d l c : Addr} {H H' : Hp} (D : Drw H d l c) (B : ExtN H H') : Drw H' d l c := by
  obtain ⟨⟨r, t, h⟩, ⟨ns, hl⟩, ⟨ms, hc⟩, n⟩ := D
  exact ⟨⟨r, t, B _ _ h (fun _ z => by cases z)⟩, ⟨ns, B _ _ hl (fun _ z => by cases z)⟩, ⟨ms, B _ _ hc (fun _ z => by cases z)⟩, n⟩
theorem tabs_keep {T : List (Addr × Str)} {H H' : Hp} (t : Tabs T H) (k : ∀ b o, H b = some o → (∀ xs, o ≠ .lst xs) → (∀ C dx fs, o ≠ .ins C dx fs) → H' b = some o) : Tabs T H' := fun p hp => by
  obtain ⟨ps, h1, h2, h3⟩ := t p hp
  refine ⟨ps, k _ _ h1 (fun _ z => by cases z) (fun _ _ _ z => by cases z), h2, fun pos cv hc => ?_⟩
  obtain ⟨c0, e1, e2⟩ := h3 pos cv hc
  exact ⟨c0, e1, k _ _ e2 (fun _ z => by unfold CodeO at z; cases z) (fun _ _ _ z => by unfold CodeO at z; cases z)⟩
def hole (r : Addr) (H : Hp) : Hp := fun b => if b = r then none else H b
theorem hole_at {r b : Addr} {H : Hp} {o : HO} (e : H b = some o) (n : b ≠ r) : hole r H b = some o := by
  unfold hole
  rw [if_neg n]
  exact e
theorem hole_ne {r b : Addr} {H : Hp} {o : HO} (e : hole r H b = some o) : b ≠ r ∧ H b = some o := by
  unfold hole at e
  by_cases z : b = r
  · rw [if_pos z] at e
    cases e
  · rw [if_neg z] at e
    exact ⟨z, e⟩
theorem hole_same {r : Addr} {H H' : Hp} (s : Same H H') : Same (hole r H) (hole r H') := fun b o e => by
  obtain ⟨n, e⟩ := hole_ne e
  exact hole_at (s _ _ e) n
/-- what a value says stands without the tables -/
theorem ext_cut {H H' : Hp} (e : ExtN H H') : Same (fun b => noTbl (H b)) H' := fun b o h => by
  obtain ⟨h1, h2⟩ := noTbl_some h
  exact e b o h1 h2
theorem rd_nt {H : Hp} {a : Addr} {u : HO} (h : Rd H a u) (n : ∀ ps, u ≠ .tbl ps) : Rd (fun b => noTbl (H b)) a u := by
  rcases h with e | ⟨o, e⟩
  · left
    show noTbl (H a) = _
    rw [e]
    exact noTbl_of n
  · right
    refine ⟨o, ?_⟩
    show noTbl (H a) = _
    rw [e]
    rfl
mutual
theorem is_nt {H : Hp} {v : V} {w : W} : Is H v w → Is (fun b => noTbl (H b)) v w
  | .non => .non
  | .bl b => .bl b
  | .int i => .int i
  | .str x h ok => .str x h ok
  | .lst h e t => .lst h (by show noTbl _ = _; rw [e]; rfl) (isA_nt t)
  | .tup h e t => .tup h (rd_nt e (fun _ z => by cases z)) (isA_nt t)
  | .dct h ⟨ks, e, q⟩ t => .dct h ⟨ks, (rd_nt e (fun _ z => by cases z)), q⟩ (isK_nt t)
theorem isA_nt {H : Hp} {v : List V} {w : List W} : IsAll H v w → IsAll (fun b => noTbl (H b)) v w
  | .nil => .nil
  | .cons h t => .cons (is_nt h) (isA_nt t)
theorem isK_nt {H : Hp} {v : List (Option Key × V)} {w : List (Option Key × W)} : IsKV H v w → IsKV (fun b => noTbl (H b)) v w
  | .nil => .nil
  | .cons hk h t => .cons hk (is_nt h) (isK_nt t)
end
theorem is_ext {H H' : Hp} {v : V} {w : W} (h : Is H v w) (e : ExtN H H') : Is H' v w := (is_nt h).same (ext_cut e)
/-! ### rows -/
theorem IsAll.app {H : Hp} : ∀ {xs ys : List V} {ws vs : List W}, IsAll H xs ws → IsAll H ys vs → IsAll H (xs ++ ys) (ws ++ vs)
  | _, _, _, _, .nil, h => h
  | _, _, _, _, .cons a t, h => .cons a (t.app h)
theorem IsAll.take {H : Hp} : ∀ {xs : List V} {ws : List W} (i : Nat), IsAll H xs ws → IsAll H (xs.take i) (ws.take i)
  | _, _, 0, _ => .nil
  | _, _, _ + 1, .nil => .nil
  | _, _, i + 1, .cons a t => .cons a (t.take i)
theorem IsAll.drop {H : Hp} : ∀ {xs : List V} {ws : List W} (i : Nat), IsAll H xs ws → IsAll H (xs.drop i) (ws.drop i)
  | _, _, 0, h => h
  | _, _, _ + 1, .nil => .nil
  | _, _, i + 1, .cons _ t => t.drop i
def rowW (p : Str × Int) : W := .tup [.str p.1, .int p.2]
theorem RowL.isAll {H0 H : Hp} {ts : List Str} {rs : List V} {ws : List (Str × Int)} (h : RowL H0 H ts rs ws) (sm : ∀ t ∈ ts, kSm (some (.inr t))) : IsAll H rs (ws.map rowW) := by
  induction h with
  | nil => exact .nil
  | snoc h n e m ih =>
    rw [List.map_append]
    refine ih.app (.cons (.tup (by show 2 ≤ 900; decide) (.inl e) (.cons (.str _ (sm _ m).1 (sm _ m).2) (.cons (.int _) .nil))) .nil)
theorem RowT.app {H : Hp} : ∀ {xs ys : List V} {ts us : List Str}, RowT H xs ts → RowT H ys us → RowT H (xs ++ ys) (ts ++ us)
  | _, _, _, _, .nil, h => h
  | _, _, _, _, .cons a t, h => .cons a (t.app h)
theorem RowL.rowT {H0 H : Hp} {ts : List Str} {rs : List V} {ws : List (Str × Int)} (h : RowL H0 H ts rs ws) : RowT H rs (ws.map (·.1)) := by
  induction h with
  | nil => exact .nil
  | snoc h n e m ih =>
    rw [List.map_append]
    exact ih.app (.cons e .nil)
theorem RowL.names {H0 H : Hp} {ts : List Str} {rs : List V} {ws : List (Str × Int)} (h : RowL H0 H ts rs ws) : ∀ p ∈ ws, p.1 ∈ ts := by
  induction h with
  | nil => intro p hp; cases hp
  | snoc h n e m ih =>
    intro p hp
    rcases List.mem_append.mp hp with z | z
    · exact ih p z
    · rw [List.mem_singleton.mp z]; exact m
theorem RowL.same {H0 H H' : Hp} {ts : List Str} {rs : List V} {ws : List (Str × Int)} (h : RowL H0 H ts rs ws) (s : Same H H') : RowL H0 H' ts rs ws := h.mono fun a xs _ e => s _ _ e
theorem look_some : ∀ {st : List (Str × List Int)} {t : Str}, t ∈ st.map (·.1) → ∃ ns, st.lookup t = some ns
  | (k, v) :: st, t, h => by
    rw [look_cons]
    by_cases q : k = t
    · exact ⟨v, by rw [if_pos q]⟩
    · rw [if_neg q]
      exact look_some ((List.mem_cons.mp (show t ∈ k :: st.map (·.1) from h)).resolve_left fun z => q z.symm)
theorem rows_ok {H : Hp} {kvs : List (Key × V)} {st : List (Str × List Int)} (h : LinT H kvs st) {ws : List (Str × Int)} (m : ∀ p ∈ ws, p.1 ∈ st.map (·.1)) : ∀ w ∈ ws.map rowW, isRowW kvs w = true := by
  intro w hw
  obtain ⟨p, hp, rfl⟩ := List.mem_map.mp hw
  obtain ⟨ns, e⟩ := look_some (m p hp)
  obtain ⟨a, e2, _⟩ := h.get e
  have z : isRowW kvs (rowW p) = ((valV kvs (.inr p.1)).isSome && isNum (.int p.2)) := rfl
  rw [z, e2, isNum_eq]
  rfl
theorem bad_none {ks : List (Key × V)} {ws : List W} (h : ∀ w ∈ ws, isRowW ks w = true) : badAt ks (.lst ws) = none ∧ badAt ks (.tup ws) = none := by
  have z : (ws.findIdx? fun w => !isRowW ks w) = none := by
    rw [List.findIdx?_eq_none_iff]
    intro w hw
    rw [h w hw]
    rfl
  refine ⟨?_, ?_⟩
  · show ((ws.findIdx? fun w => !isRowW ks w).map fun i => V.int i) = none
    rw [z]
    rfl
  · show ((ws.findIdx? fun w => !isRowW ks w).map fun i => V.int i) = none
    rw [z]
    rfl
theorem bad_at {ks : List (Key × V)} {ws vs : List W} {b : W} (h : ∀ w ∈ ws, isRowW ks w = true) (hb : isRowW ks b = false) : badAt ks (.lst (ws ++ [b] ++ vs)) = some (.int ws.length) := by
  have z : ((ws ++ [b] ++ vs).findIdx? fun w => !isRowW ks w) = some ws.length := by
    have z1 : (ws.findIdx? fun w => !isRowW ks w) = none := by
      rw [List.findIdx?_eq_none_iff]
      intro w hw
      rw [h w hw]
      rfl
    rw [List.append_assoc, List.findIdx?_append, z1]
    show ((((b :: vs).findIdx? fun w => !isRowW ks w)).map fun i => i + ws.length) = _
    rw [List.findIdx?_cons, hb]
    simp
  show (((ws ++ [b] ++ vs).findIdx? fun w => !isRowW ks w).map fun i => V.int i) = _
  rw [z]
  rfl
theorem QAt.n {H H' : Hp} {a C : Addr} {fs : List (Str × V)} (h : QAt H a C fs) (s : ∀ b o, H b = some o → (∀ ps, o ≠ .tbl ps) → (∀ xs, o ≠ .lst xs) → (∀ kvs, o ≠ .dK kvs) → H' b = some o) : QAt H' a C fs := by
  obtain ⟨d, e1, e2⟩ := h
  exact ⟨d, s _ _ e1 (fun _ z => by unfold exq at z; cases z) (fun _ z => by unfold exq at z; cases z) (fun _ z => by unfold exq at z; cases z), s _ _ e2 (fun _ z => by cases z) (fun _ z => by cases z) (fun _ z => by cases z)⟩
theorem QAt.ext {H H' : Hp} {a C : Addr} {fs : List (Str × V)} (h : QAt H a C fs) (e : ExtN H H') : QAt H' a C fs := QAt.n h fun b o w n _ _ => e b o w n
theorem QAt.but {d l c : Addr} {H H' : Hp} {a C : Addr} {fs : List (Str × V)} (h : QAt H a C fs) (D : Drw H d l c) (B : But d l H H') : QAt H' a C fs := QAt.n h fun b o w n1 n2 n3 => by
  obtain ⟨⟨r, tt, hd⟩, ⟨ns, hl⟩, _, _⟩ := D
  exact B b o w (fun z => by rw [z, hd] at w; exact n3 _ (Option.some.inj w).symm) (fun z => by rw [z, hl] at w; exact n2 _ (Option.some.inj w).symm)
theorem small_log {k : Int} (h0 : 0 ≤ k) (h1 : k < 900) : k.natAbs.log2 < 1920 := Nat.lt_of_le_of_lt (Nat.log2_le_self _) (by omega)
def spLRight (T : List (Addr × Str)) (C : Addr) : Sp := fun vs H Q _ => ∃ d l c p m sd g kvs n st gs stm gsm, vs = [.ref d, .ref p, .ref m] ∧ Drw H d l c ∧ Tabs T H ∧ PatAt C (cut d l H) p n st gs ∧ PatOk n st ∧ ModAt (cut d l H) m sd g kvs stm gsm ∧ PatOk n stm ∧
  (∀ t, stm.lookup t = st.lookup t) ∧ (∀ k, k ∈ gsm ↔ k ∈ gs) ∧ (∀ t ∈ stm.map (·.1), kSm (some (.inr t))) ∧ ("nokind" : Str) ∉ stm.map (·.1) ∧ ∀ H', Drw H' d l c → Tabs T H' → ButN d l H H' → Q (.bl true) H'
/-- what the law's defs know of the class and of the errors -/
structure RTxt (K : PySem.W.Frag) (mg : Str → Option Value) (C CR CS : Addr) : Prop where
  tx : PTxt K C
  gR : mg "BadRows" = some (.ref CR)
  kR : PySem.W.keepIn K (.ref CR) = true
  is : Isi K CR
  own : PySem.W.kitOne K (.ref CR) (.ref CR) = some true
  no : PySem.W.findIn K (.ref CR) "at" = some none
  ex : PySem.W.exmOne K (.ref CR) (.ref CS) = some true
  gS : mg "StillError" = some (.ref CS)
theorem fits_eq {st stm : List (Str × List Int)} {gs gsm : List Int} (h : ∀ t, stm.lookup t = st.lookup t) (hg : ∀ k, k ∈ gsm ↔ k ∈ gs) (ts : List Str) : fitsF stm gsm ts = fitsF st gs ts := by
  have e : stepF stm = stepF st := by
    funext s t
    unfold stepF
    rw [h]
  unfold fitsF goF
  rw [e]
  exact decide_eq_decide.mpr (hg _)
section
variable {P : Program} {w : World} {K : PySem.W.Frag} {mg : Str → Option Value} {base : Heap}
theorem ok_lright {T : List (Addr × Str)} {C CR CS Pt c0 f fT fP fR fL fC ff : Addr} {fd fdT fdP fdR fdL fdC fdf : FuncData} (F : FunC K "_law_rows_right" "_law_rows_right" sLRight f fd c0) (TB : TabB base mg c0 Pt) (hT1 : (Pt, ("_law_rows_right.<locals>." : Str) ++ "<lambda>") ∈ T) (hT2 : ∀ p ∈ T, p.1 = Pt → p.2 = ("_law_rows_right.<locals>." : Str) ++ "<lambda>")
    (X : RTxt K mg C CR CS) (GT : FnOk P w K mg base CX0 2 fT fdT ["_law_draw", "_law_amount"] spTake) (kT : PySem.W.keepIn K (.ref fT) = true) (bT : Binds K fdT ["_law_draw", "_law_amount"] []) (gT : mg "_law_take" = some (.ref fT))
    (GP : FnOk P w K mg base CX0 3 fP fdP ["_law_draw", "_law_some"] spPick) (kP : PySem.W.keepIn K (.ref fP) = true) (bP : Binds K fdP ["_law_draw", "_law_some"] []) (gP : mg "_law_pick" = some (.ref fP))
    (GR : FnOk P w K mg base CX0 4 fR fdR ["_law_draw", "_law_model", "_law_most"] spLRows) (kR : PySem.W.keepIn K (.ref fR) = true) (bR : Binds K fdR ["_law_draw", "_law_model", "_law_most"] []) (gR : mg "_law_rows" = some (.ref fR))
    (GL : FnOk P w K mg base CX0 1 fL fdL ["_law_told_here", "_law_rows_here"] spLFits) (kL : PySem.W.keepIn K (.ref fL) = true) (bL : Binds K fdL ["_law_told_here", "_law_rows_here"] []) (gL : mg "_law_fits" = some (.ref fL))
    (FC : Fun K "_law_caught" "_law_caught" sCaught fC fdC) (bC : Binds K fdC ["_law_work"] []) (gC : mg "_law_caught" = some (.ref fC))
    (GF : FnOk P w K mg base (L2.CX P w) 4 ff fdf ["self", "rows"] (spOr (spFits C CR) (spFits2 C CR))) (bF : Binds K fdf ["self", "rows"] []) (bK : ∀ (s : Shared) (u v : Value), BindsTo s fdf ⟨[u], [("rows", v)]⟩ [("self", u), ("rows", v)]) (mF : Meth K C "fits" ff)
    (ms : mg "sorted" = none) (mt : mg "tuple" = none) (ml : mg "len" = none) (mi : mg "isinstance" = none) (mr : mg "repr" = none) :
    FnOk P w K mg base CX0 7 f fd ["_law_draw", "_law_made", "_law_model"] (spLRight T C) := by
  have S := scRr
  obtain ⟨ocC, odC, kVC, docC, pmC, anC, cdC, ctC, oslC, rfl, lkC, hcC⟩ := FC.ex
  refine F.ok S (fun vs H Q E h => ?_) (fun A outer s H vs Q E hr h => ?_)
  · obtain ⟨d, l, c, p, m, sd, g, kvs, n, st, gs, stm, gsm, rfl, _⟩ := h
    rfl
  · obtain ⟨d, l, c, p, m, sd, g, kvs, n, st, gs, stm, gsm, rfl, D, hTab, hP, ok, hM, okm, hst, hgs, sm, nok, q⟩ := h
    have hu := hu_of hr
    have hr4 := hr.mono (show 4 ≤ 6 by decide)
    have hr3 := hr.mono (show 3 ≤ 6 by decide)
    have hr2 := hr.mono (show 2 ≤ 6 by decide)
    have hr1 := hr.mono (show 1 ≤ 6 by decide)
    refine ⟨_, pss_cons (ps_set (i := 3) S.nd rfl (.inl rfl) (pe_callB (call_sortedD rfl) (by rfl) ms (by decide +kernel) (pa_cons (pe_dget hu (pv 2) (pe_str) (fun _ _ => rfl)) pa_nil))) (pss_cons (ps_set (i := 4) S.nd rfl (.inr rfl) (pe_call GR hr4 (by rfl) gR kR bR .nil pass0 (pa_cons (pv 0) (pa_cons (pe_disp (pps_cons (pe_str) (pv 3) (pps_nil)) rfl rfl (by decide) (by decide)) (pa_cons (pe_int) pa_nil))))) (pss_cons (ps_set (i := 5) S.nd rfl (.inl rfl) (pe_call GL hr1 (by rfl) gL kL bL .nil pass0 (pa_cons (pv 2) (pa_cons (pv 4) pa_nil)))) (pss_cons (ps_if (pt_cmpR (op_neD hr.units) (pe_lst (pa_cons (pe_meth (pv 1) X.tx.cl mF GF hr4 bF .nil (passes_call L2.takes0 fun _ _ _ _ h => h) (pa_cons (pv 4) pa_nil)) (pa_cons (pe_methK (pv 1) X.tx.cl mF GF hr4 bK (passes_call L2.takes0 fun _ _ _ _ h => h) (pe_callTy (call_tuple_of) (by rfl) mt (by decide +kernel) (pa_cons (pv 4) pa_nil))) pa_nil))) (pe_lst (pa_cons (pv 5) (pa_cons (pv 5) pa_nil))) (nomark _)) (pss_one (ps_ret (pe_bl))) (pss_nil)) (pss_cons (ps_set (i := 6) S.nd rfl (.inl rfl) (pe_call GP hr3 (by rfl) gP kP bP .nil pass0 (pa_cons (pv 0) (pa_cons (pe_lst (pa_cons (pe_non) (pa_cons (pe_tup (pa_cons (pe_str) (pa_cons (pe_int) pa_nil))) (pa_cons (pe_tup (pa_cons (pe_ix ix_list (pv 3) (pe_int) (fun _ _ => rfl)) (pa_cons (pe_bl) pa_nil))) (pa_cons (pe_lst (pa_cons (pe_ix ix_list (pv 3) (pe_int) (fun _ _ => rfl)) (pa_cons (pe_int) pa_nil))) (pa_cons (pe_tup (pa_cons (pe_ix ix_list (pv 3) (pe_int) (fun _ _ => rfl)) pa_nil)) (pa_cons (pe_str) pa_nil))))))) pa_nil)))) (pss_cons (ps_set (i := 7) S.nd rfl (.inl rfl) (pe_call GT hr2 (by rfl) gT kT bT .nil pass0 (pa_cons (pv 0) (pa_cons (pe_op op_add (pe_callB (call_len_seq) (by rfl) ml PySem.boot_len (pa_cons (pv 4) pa_nil)) pe_int) pa_nil)))) (pss_cons (ps_expr (pe_bm PySem.F.plainAttrs_list PySem.F.slot_list_insert PySem.F.type_list_insert mt_insert (pv 4) (pa_cons (pv 7) (pa_cons (pv 6) pa_nil)))) (pss_cons (ps_set (i := 8) S.nd rfl (.inl rfl) (pe_lamcall (T := T) (TT := TCaught K CS) (k := 4) (by rfl) gC FC.kp lkC hcC bC scCa rfl (.inl rfl) (caught_gives X.gS) TB rfl hT1 hT2 hr (lamS_by (by show lamSB (defScope sLRight) _ = true; decide +kernel)) (by rfl) (fun _ _ _ _ _ => rfl) (fun A outer s H E f c' hrL => pe_meth (pv 1) X.tx.cl mF GF hrL bF .nil (passes_call (takes_of rfl rfl rfl rfl) fun _ _ _ _ h => h) (pa_cons (pv 4) pa_nil)))) (pss_cons (ps_set (i := 9) S.nd rfl (.inr rfl) (pe_call GP hr3 (by rfl) gP kP bP .nil pass0 (pa_cons (pv 0) (pa_cons (pe_lst (pa_cons (pe_non) (pa_cons (pe_int) (pa_cons (pe_str) (pa_cons (pe_dnewK) (pa_cons (pv 1) pa_nil)))))) pa_nil)))) (pss_cons (ps_set (i := 10) S.nd rfl (.inl rfl) (pe_lamcall (T := T) (TT := TCaught K CS) (k := 4) (by rfl) gC FC.kp lkC hcC bC scCa rfl (.inl rfl) (caught_gives X.gS) TB rfl hT1 hT2 hr (lamS_by (by show lamSB (defScope sLRight) _ = true; decide +kernel)) (by rfl) (fun _ _ _ _ _ => rfl) (fun A outer s H E f c' hrL => pe_meth (pv 1) X.tx.cl mF GF hrL bF .nil (passes_call (takes_of rfl rfl rfl rfl) fun _ _ _ _ h => h) (pa_cons (pv 9) pa_nil)))) (pss_cons (ps_if (PW.pt (pw_or (pt_not (pt_val (pe_callB (call_isq) (by rfl) mi PyProof.Rows.boot_isinstance (pa_cons (pv 8) (pa_cons (pe_glob (v := .ref CR) (by rfl) X.gR rfl) pa_nil))))) (pw_or1 (pt_cmpR op_ne (pe_callB (SkE.call_repr_int) (by rfl) mr (by decide +kernel) (pa_cons (pe_attq (pv 8)) pa_nil)) (pe_callB (SkE.call_repr_int) (by rfl) mr (by decide +kernel) (pa_cons (pv 7) pa_nil)) (nomark _))))) (pss_one (ps_ret (pe_bl))) (pss_nil)) (pss_one (ps_ret (pe_and (pe_callB (call_isq) (by rfl) mi PyProof.Rows.boot_isinstance (pa_cons (pv 10) (pa_cons (pe_glob (v := .ref CR) (by rfl) X.gR rfl) pa_nil))) (pe_one (pe_cmpR op_isN (pe_attq (pv 10)) pe_non (nomark _)))))))))))))))), ?_⟩
    --READ
    have off : ∀ {x : Addr}, H x = none → x ≠ d ∧ x ≠ l := fun z => D.off z
    have hM1 := hM.same cut_le
    have lenN : (stm.map (·.1)).length ≤ 3 := by rw [List.length_map]; exact okm.few
    have namesOf : ∀ t, t ∈ stm.map (·.1) → t ∈ st.map (·.1) := fun t ht => by
      obtain ⟨ns, e⟩ := look_some ht
      rw [hst] at e
      exact List.mem_map.mpr ⟨_, look_of e, rfl⟩
    refine ⟨_, rfl, m, _, rfl, hM1.steps, sd, kvs, stm.map (·.1), rfl, .inl hM1.ss, hM1.lin.keys, by omega, fun ys so perm srt nso => ?_⟩
    have s1 : Same H (upd H so (.lst (ys.map V.str))) := same_new nso
    have e1 : (upd H so (.lst (ys.map V.str))) so = some (.lst (ys.map V.str)) := upd_same
    generalize upd H so (.lst (ys.map V.str)) = H1 at s1 e1 ⊢
    obtain ⟨y0, ys', rfl⟩ : ∃ y0 ys', ys = y0 :: ys' := by
      cases ys with
      | nil =>
        have z := perm.length_eq
        rw [List.length_map] at z
        exact absurd (List.length_eq_zero_iff.mp z.symm) okm.ne
      | cons y ys => exact ⟨y, ys, rfl⟩
    have lenY : (y0 :: ys').length ≤ 3 := by rw [perm.length_eq]; exact lenN
    have memY : ∀ t ∈ (y0 :: ys'), t ∈ stm.map (·.1) := fun t ht => perm.mem_iff.mp ht
    have smY : ∀ t ∈ (y0 :: ys'), kSm (some (.inr t)) := fun t ht => sm t (memY t ht)
    refine ⟨_, rfl, fun dq ndq => ⟨_, rfl, upd_same, [(.inr "sorts", .ref so)], rfl, by show 1 ≤ 15; decide, ?_⟩⟩
    have s2 : Same H1 (upd (upd H1 dq (.dK [])) dq (.dK (mergeK [] [(.inr "sorts", .ref so)]))) := same_own ndq (same_new ndq)
    have e2 : (upd (upd H1 dq (.dK [])) dq (.dK (mergeK [] [(.inr "sorts", .ref so)]))) dq = some (.dK [(.inr "sorts", .ref so)]) := upd_same
    generalize upd (upd H1 dq (.dK [])) dq (.dK (mergeK [] [(.inr "sorts", .ref so)])) = H2 at s2 e2 ⊢
    have w2 := s1.trans s2
    have eso2 := s2 _ _ e1
    refine ⟨d, l, c, dq, so, y0 :: ys', 7, rfl, D.same w2, e2, eso2, (off nso).2, Nat.succ_pos _, by omega, by decide, fun rows rs ws H3 D3 B3 nrows e3 rl len3 => ?_⟩
    have nrH : H rows = none := w2.free nrows
    have offr := off nrH
    have BN3 : ButN d l H H3 := ((But.of w2).trans B3).n
    have eso3 := B3 _ _ eso2 (off nso).1 (off nso).2
    have T3 := tabs_but (hTab.ext w2) (D.same w2) B3
    have hlk : ∀ t ∈ ws.map (·.1), ∃ ns, st.lookup t = some ns := fun t ht => by
      obtain ⟨pp, hp, rfl⟩ := List.mem_map.mp ht
      exact look_some (namesOf _ (memY _ (rl.names pp hp)))
    have hlkm : ∀ t ∈ ws.map (·.1), ∃ ns, stm.lookup t = some ns := fun t ht => by
      obtain ⟨ns, e⟩ := hlk t ht
      exact ⟨ns, by rw [hst, e]⟩
    have wsN : ∀ pp ∈ ws, pp.1 ∈ st.map (·.1) := fun pp hp => namesOf _ (memY _ (rl.names pp hp))
    refine ⟨_, rfl, _, rfl, m, sd, g, kvs, n, stm, gsm, rows, rs, ws.map (·.1), rfl, hM.same (BN3.cut.trans cut_le), okm, e3, rl.rowT, hlkm, ?_⟩
    rw [fits_eq hst hgs]
    generalize hb : fitsF st gs (ws.map (·.1)) = bb
    -- both answers
    have hP3 := hP.same (BN3.cut.trans cut_le)
    obtain ⟨dx, ds, tg, kp, h1, h2, h3, h4⟩ := id hP.ex
    have ins : ∀ {Hx : Hp}, ButN d l H Hx → Hx p = some (.ins C dx (pflds ds n tg)) := fun {Hx} B => cut_le _ _ (B.cut _ _ h1)
    have nofit : (pflds ds n tg).lookup ("fits" : Str) = none := by kernel_rfl
    refine ⟨_, rfl, p, dx, _, rfl, ins BN3, nofit, _, rfl, .inl ⟨p, n, st, gs, .ref rows, rfl, hP3, ok, .inr ⟨rows, rs, ws.map (·.1), rfl, .inl e3, rl.rowT, by omega, hlk, fun kv hk => ⟨_, .lst (by omega) e3 (rl.isAll smY), (bad_none (rows_ok hk wsN)).1⟩, fun H4 s4 => ?_⟩⟩⟩
    rw [hb]
    have BN4 := BN3.trans (But.of s4).n
    refine ⟨_, rfl, p, dx, _, rfl, ins BN4, nofit, _, rfl, rows, rs, rfl, .inl ⟨SqL.of (s4 _ _ e3), fun tp ntp => ⟨_, rfl, ?_⟩⟩⟩
    have s5 := s4.trans (same_new (o := .tup rs) ntp)
    have e5 : (upd H4 tp (.tup rs)) tp = some (.tup rs) := upd_same
    generalize upd H4 tp (.tup rs) = H5 at s5 e5 ⊢
    have BN5 := BN3.trans (But.of s5).n
    refine .inl ⟨p, n, st, gs, .ref tp, rfl, hP.same (BN5.cut.trans cut_le), ok, .inr ⟨tp, rs, ws.map (·.1), rfl, .inr (.inl e5), (rl.same s5).rowT, by omega, hlk, fun kv hk => ⟨_, .tup (by omega) (.inl e5) ((rl.same s5).isAll smY), (bad_none (rows_ok hk wsN)).2⟩, fun H6 s6 => ?_⟩⟩
    rw [hb]
    have u6 := s5.trans s6
    clear e5 s5 s6 BN5 BN4 s4 ntp
    refine ⟨by show 2 ≤ sizeLine; decide, fun l1 nl1 => ⟨_, rfl, _, rfl, by show 2 ≤ sizeLine; decide, fun l2 nl2 => ?_⟩⟩
    have u8 : Same H3 (upd (upd H6 l1 (.lst [.bl bb, .bl bb])) l2 (.lst [.bl bb, .bl bb])) := (u6.trans (same_new nl1)).trans (same_new nl2)
    have e81 : (upd (upd H6 l1 (.lst [.bl bb, .bl bb])) l2 (.lst [.bl bb, .bl bb])) l1 = some (.lst [.bl bb, .bl bb]) := same_new nl2 _ _ upd_same
    have e82 : (upd (upd H6 l1 (.lst [.bl bb, .bl bb])) l2 (.lst [.bl bb, .bl bb])) l2 = some (.lst [.bl bb, .bl bb]) := upd_same
    generalize upd (upd H6 l1 (.lst [.bl bb, .bl bb])) l2 (.lst [.bl bb, .bl bb]) = H8 at u8 e81 e82 ⊢
    have shp : SeqAt.shaped (.list [.bool bb, .bool bb]) = true := by cases bb <;> decide
    refine ⟨.list [.bool bb, .bool bb], .list [.bool bb, .bool bb], .lst (SqL.of e81) (.cons (.bl _) (.cons (.bl _) .nil)), .lst (SqL.of e82) (.cons (.bl _) (.cons (.bl _) .nil)), shp, shp, false, by cases bb <;> decide, iteF ?_⟩
    clear e81 e82 nl1 nl2 u6 shp
    -- a bad row
    have BN8 := BN3.trans (But.of u8).n
    have D8 := D3.same u8
    have T8 := T3.ext u8
    have e8 := u8 _ _ e3
    have so8 := u8 _ _ eso3
    have rl8 := rl.same u8
    clear u8 hP3 BN3 eso3 T3
    refine ⟨_, rfl, by show 2 ≤ sizeLine; decide, fun t1 nt1 => ?_⟩
    have s1 : Same H8 (upd H8 t1 (.tup [.str "nokind", .int 1])) := same_new nt1
    have q1 : (upd H8 t1 (.tup [.str "nokind", .int 1])) t1 = some (.tup [.str "nokind", .int 1]) := upd_same
    generalize upd H8 t1 (.tup [.str "nokind", .int 1]) = G1 at s1 q1 ⊢
    refine ⟨_, rfl, so, _, 0, _, rfl, rfl, SqL.of (s1 _ _ so8), at_of (j := 0) rfl rfl, by show 2 ≤ sizeLine; decide, fun t2 nt2 => ?_⟩
    have s2 : Same G1 (upd G1 t2 (.tup [.str y0, .bl true])) := same_new nt2
    have q2 : (upd G1 t2 (.tup [.str y0, .bl true])) t2 = some (.tup [.str y0, .bl true]) := upd_same
    generalize upd G1 t2 (.tup [.str y0, .bl true]) = G2 at s2 q2 ⊢
    have v2 := s1.trans s2
    refine ⟨_, rfl, so, _, 0, _, rfl, rfl, SqL.of (v2 _ _ so8), at_of (j := 0) rfl rfl, by show 2 ≤ sizeLine; decide, fun t3 nt3 => ?_⟩
    have s3 : Same G2 (upd G2 t3 (.lst [.str y0, .int 1])) := same_new nt3
    have q3 : (upd G2 t3 (.lst [.str y0, .int 1])) t3 = some (.lst [.str y0, .int 1]) := upd_same
    generalize upd G2 t3 (.lst [.str y0, .int 1]) = G3 at s3 q3 ⊢
    have v3 := v2.trans s3
    refine ⟨_, rfl, so, _, 0, _, rfl, rfl, SqL.of (v3 _ _ so8), at_of (j := 0) rfl rfl, by show 1 ≤ sizeLine; decide, fun t4 nt4 => ?_⟩
    have s4 : Same G3 (upd G3 t4 (.tup [.str y0])) := same_new nt4
    have q4 : (upd G3 t4 (.tup [.str y0])) t4 = some (.tup [.str y0]) := upd_same
    generalize upd G3 t4 (.tup [.str y0]) = G4 at s4 q4 ⊢
    have v4 := v3.trans s4
    refine ⟨by show 6 ≤ sizeLine; decide, fun po npo => ?_⟩
    have v5 := fun o => v4.trans (same_new (o := o) npo)
    have offP := D8.off (v4.free npo)
    refine ⟨d, l, c, po, _, rfl, (D8.same v4).new npo, upd_same, offP.2, Nat.succ_pos _, (Nat.le_trans (Nat.le_of_ble_eq_true rfl : _ ≤ 6) (by decide)), fun jx y H9 hy D9 B9 => ?_⟩
    have up : ∀ {x o}, H8 x = none → G4 x = some o → H9 x = some o := fun {x o} n e => B9 _ _ (same_new npo _ _ e) (D8.off n).1 (D8.off n).2
    have BN9 := (BN8.trans (But.of (v5 _)).n).trans B9.n
    have T9 := tabs_but (T8.ext (v5 _)) (D8.same (v5 _)) B9
    have e9 : H9 rows = some (.lst rs) := B9 _ _ (v5 _ _ _ e8) offr.1 offr.2
    have rl9 : RowL H2 H9 (y0 :: ys') rs ws := (rl8.same (v5 _)).mono fun a xs n e => B9 _ _ e (off (w2.free n)).1 (off (w2.free n)).2
    have sm0 := smY y0 (List.mem_cons_self ..)
    have hbad : ∃ wy, Is (hole rows (cut d l H9)) y wy ∧ ∀ kv : List (Key × V), valV kv (.inr "nokind") = none → isRowW kv wy = false := by
      have hm := List.mem_of_getElem? hy
      simp only [List.mem_cons, List.not_mem_nil, or_false] at hm
      have nr : ∀ {x : Addr}, H8 x = none → x ≠ rows := fun {x} z e => by rw [e, e8] at z; cases z
      rcases hm with h | h | h | h | h | h
      · rw [h]; exact ⟨_, .non, fun _ _ => rfl⟩
      · rw [h]
        have z := up nt1 ((s2.trans (s3.trans s4)) _ _ q1)
        refine ⟨_, .tup (by show 2 ≤ 900; decide) (.inl (hole_at (cut_at z (D8.off nt1).1 (D8.off nt1).2) (nr nt1))) (.cons (.str _ (by decide) (by decide +kernel)) (.cons (.int _) .nil)), fun kv e => ?_⟩
        show ((valV kv (.inr "nokind")).isSome && isNum (.int 1)) = false
        rw [e]
        rfl
      · rw [h]
        have nn := s1.free nt2
        have z := up nn ((s3.trans s4) _ _ q2)
        refine ⟨_, .tup (by show 2 ≤ 900; decide) (.inl (hole_at (cut_at z (D8.off nn).1 (D8.off nn).2) (nr nn))) (.cons (.str _ sm0.1 sm0.2) (.cons (.bl _) .nil)), fun kv e => ?_⟩
        show ((valV kv (.inr y0)).isSome && isNum (.bl true)) = false
        rw [isNum_eq, Bool.and_false]
      · rw [h]
        have nn := v2.free nt3
        have z := up nn (s4 _ _ q3)
        exact ⟨_, .lst (by show 2 ≤ 900; decide) (hole_at (cut_at z (D8.off nn).1 (D8.off nn).2) (nr nn)) (.cons (.str _ sm0.1 sm0.2) (.cons (.int _) .nil)), fun _ _ => rfl⟩
      · rw [h]
        have nn := v3.free nt4
        have z := up nn q4
        exact ⟨_, .tup (by show 1 ≤ 900; decide) (.inl (hole_at (cut_at z (D8.off nn).1 (D8.off nn).2) (nr nn))) (.cons (.str _ sm0.1 sm0.2) .nil), fun _ _ => rfl⟩
      · rw [h]; exact ⟨_, .str _ (by decide) (by decide +kernel), fun _ _ => rfl⟩
    obtain ⟨wy, hwy, hwb⟩ := hbad
    clear v5 B9 up q1 q2 q3 q4 s1 s2 s3 s4 v2 v3 v4 npo
    -- put in among the rows
    refine ⟨_, rfl, _, rfl, rows, _, rfl, .inl (SqL.of e9), _, _, rfl, rfl, d, l, c, _, rfl, D9, by omega, by omega, fun spot H10 k0 k1 D10 B10 => ?_⟩
    have BN10 := BN9.trans B10.n
    have T10 := tabs_but T9 D9 B10
    have e10 := B10 _ _ e9 offr.1 offr.2
    have rl10 : RowL H2 H10 (y0 :: ys') rs ws := rl9.mono fun a xs n e => B10 _ _ e (off (w2.free n)).1 (off (w2.free n)).2
    have hwy10 := hwy.same (hole_same B10.cut)
    refine ⟨_, rfl, .inl ⟨rfl, _, SqL.of e10⟩, _, rfl, _, rfl, rows, rs, spot, y, rfl, rfl, e10, small1000 (by omega), k0, by omega, ?_⟩
    have own11 : ∀ {x o}, H10 x = some o → (∀ xs, o ≠ .lst xs) → (upd H10 rows (.lst (rs.take spot.toNat ++ [y] ++ rs.drop spot.toNat))) x = some o := fun {x o} e n => by
      rw [upd_ne (fun z => by rw [z, e10] at e; exact n _ (Option.some.inj e).symm)]
      exact e
    have tl1 : (upd H10 rows (.lst (rs.take spot.toNat ++ [y] ++ rs.drop spot.toNat))) rows = some (.lst (rs.take spot.toNat ++ [y] ++ rs.drop spot.toNat)) := upd_same
    have rl11 : RowL H2 (upd H10 rows (.lst (rs.take spot.toNat ++ [y] ++ rs.drop spot.toNat))) (y0 :: ys') rs ws := rl10.mono fun a xs _ e => own11 e (fun _ z => by cases z)
    have D11 : Drw (upd H10 rows (.lst (rs.take spot.toNat ++ [y] ++ rs.drop spot.toNat))) d l c := D10.own D nrH
    have BN11 : ButN d l H (upd H10 rows (.lst (rs.take spot.toNat ++ [y] ++ rs.drop spot.toNat))) := fun b o e h1 h2 h3 => by
      rw [upd_ne (ne_of_none e nrH)]
      exact BN10 b o e h1 h2 h3
    have T11 : Tabs T (upd H10 rows (.lst (rs.take spot.toNat ++ [y] ++ rs.drop spot.toNat))) := tabs_keep T10 fun b o e n _ => own11 e n
    have hwy11 : Is (upd H10 rows (.lst (rs.take spot.toNat ++ [y] ++ rs.drop spot.toNat))) y wy := hwy10.same fun b o e => by
      obtain ⟨e1, e2⟩ := hole_ne e
      rw [upd_ne e1]
      exact cut_le _ _ e2
    generalize upd H10 rows (.lst (rs.take spot.toNat ++ [y] ++ rs.drop spot.toNat)) = H11 at tl1 rl11 D11 BN11 T11 hwy11 ⊢
    clear own11 hwy10 e10 T10 D10 B10 rl10 hwy D9 e9 T9 rl9 BN9 BN10
    have lw : rs.length = ws.length := rl11.len
    refine ⟨T11, fun H12 eN12 T12 => ?_⟩
    have BN12 := BN11.trans (.ext eN12)
    have D12 := D11.extN eN12
    have tl2 := eN12 _ _ tl1 (fun _ z => by cases z)
    have rl12 : RowL H2 H12 (y0 :: ys') rs ws := rl11.mono fun a xs _ e => eN12 _ _ e (fun _ z => by cases z)
    have hwy12 : Is H12 y wy := is_ext hwy11 eN12
    have hP12 := hP.same (BN12.cut.trans cut_le)
    refine ⟨_, rfl, p, dx, _, rfl, ins BN12, nofit, _, rfl, .inl ⟨p, n, st, gs, .ref rows, rfl, hP12, ok, .inl ⟨.int spot, fun kv hk => ⟨_, .lst ?_ tl2 ((((rl12.isAll smY).take spot.toNat).app (.cons hwy12 .nil)).app ((rl12.isAll smY).drop spot.toNat)), ?_⟩, fun d1 H13 s13 nd1 => ⟨X.ex, fun a1 na1 => ?_⟩⟩⟩⟩
    · rw [List.length_append, List.length_append, List.length_take, List.length_drop, List.length_singleton]
      omega
    · have nk : valV kv (.inr "nokind") = none := valV_out fun z => by
        rw [hk.keys] at z
        obtain ⟨t, ht, e⟩ := List.mem_map.mp z
        cases e
        obtain ⟨ns, e⟩ := look_some ht
        rw [← hst] at e
        exact nok (List.mem_map.mpr ⟨_, look_of e, rfl⟩)
      rw [bad_at (fun w hw => rows_ok hk wsN w (List.mem_of_mem_take hw)) (hwb kv nk), List.length_take, List.length_map]
      have z : ((min spot.toNat ws.length : Nat) : Int) = spot := by omega
      rw [z]
    · have s14 : Same H12 (upd (upd H13 d1 (.xd [("at", .int spot)])) a1 (exq a1 (.ref CR) (some d1))) := (s13.trans (same_new nd1)).trans (same_new na1)
      have Q14 : QAt (upd (upd H13 d1 (.xd [("at", .int spot)])) a1 (exq a1 (.ref CR) (some d1))) a1 CR [("at", .int spot)] := ⟨d1, upd_same, same_new na1 _ _ upd_same⟩
      generalize upd (upd H13 d1 (.xd [("at", .int spot)])) a1 (exq a1 (.ref CR) (some d1)) = H14 at s14 Q14 ⊢
      have BN14 := BN12.trans (But.of s14).n
      have D14 := D12.same s14
      have T14 := T12.ext s14
      clear s14 s13 nd1 na1 hP12 hwy12 rl12 tl2 D12 T12 BN12 eN12 tl1 rl11 D11 BN11 T11 hwy11
      -- something odd
      refine ⟨_, rfl, fun dq2 ndq2 => ⟨_, rfl, by show 5 ≤ sizeLine; decide, fun po npo => ?_⟩⟩
      have s15 : Same H14 (upd H14 dq2 (.dK [])) := same_new ndq2
      have q15 : (upd H14 dq2 (.dK [])) dq2 = some (.dK []) := upd_same
      generalize upd H14 dq2 (.dK []) = H15 at s15 q15 npo ⊢
      have v15 := fun o => s15.trans (same_new (o := o) npo)
      refine ⟨d, l, c, po, _, rfl, (D14.same s15).new npo, upd_same, (D14.off (s15.free npo)).2, Nat.succ_pos _, (Nat.le_trans (Nat.le_of_ble_eq_true rfl : _ ≤ 5) (by decide)), fun jz y2 H16 hy2 D16 B16 => ?_⟩
      have BN16 := (BN14.trans (But.of (v15 _)).n).trans B16.n
      have T16 := tabs_but (T14.ext (v15 _)) (D14.same (v15 _)) B16
      have Q16 := QAt.but (Q14.same (v15 _)) (D14.same (v15 _)) B16
      have q16 : cut d l H16 dq2 = some (.dK []) := cut_at (B16 _ _ (same_new npo _ _ q15) (D14.off ndq2).1 (D14.off ndq2).2) (D14.off ndq2).1 (D14.off ndq2).2
      have hy2' : y2 = .ref p ∨ ∃ w2, Is (cut d l H16) y2 w2 ∧ isSeq w2 = false := by
        have hm := List.mem_of_getElem? hy2
        simp only [List.mem_cons, List.not_mem_nil, or_false] at hm
        rcases hm with h | h | h | h | h
        · rw [h]; exact .inr ⟨_, .non, rfl⟩
        · rw [h]; exact .inr ⟨_, .int _, rfl⟩
        · rw [h]; exact .inr ⟨_, .str _ (by decide) (by decide +kernel), rfl⟩
        · rw [h]; exact .inr ⟨.dct [], .dct (kvs := []) (by decide) ⟨[], .inl q16, rfl⟩ .nil, rfl⟩
        · rw [h]; exact .inl rfl
      refine ⟨T16, fun H17 eN17 T17 => ?_⟩
      have BN17 := BN16.trans (.ext eN17)
      have D17 := D16.extN eN17
      have Q17 := QAt.ext Q16 eN17
      have hP17 := hP.same (BN17.cut.trans cut_le)
      have fo : ∀ {Q : VK} {R : XK}, (∀ d2 H15, Same H17 H15 → H15 d2 = none → R (.ref CR) (some d2) (upd H15 d2 (.xd [("at", .non)]))) → spOr (spFits C CR) (spFits2 C CR) [.ref p, y2] H17 Q R := fun {Q R} hR => by
        rcases hy2' with rfl | ⟨w2, hw2, nb⟩
        · exact .inr ⟨p, n, st, gs, p, dx, _, rfl, hP17, ins BN17, hR⟩
        · refine .inl ⟨p, n, st, gs, y2, rfl, hP17, ok, .inl ⟨.non, fun kv _ => ⟨w2, is_ext (hw2.same cut_le) eN17, ?_⟩, hR⟩⟩
          cases w2 with
          | lst ws => cases (show true = false from nb)
          | tup ws => cases (show true = false from nb)
          | _ => rfl
      refine ⟨_, rfl, p, dx, _, rfl, ins BN17, nofit, _, rfl, fo fun d2 H18 s18 nd2 => ⟨X.ex, fun a2 na2 => ?_⟩⟩
      have s19 : Same H17 (upd (upd H18 d2 (.xd [("at", .non)])) a2 (exq a2 (.ref CR) (some d2))) := (s18.trans (same_new nd2)).trans (same_new na2)
      have R19 : QAt (upd (upd H18 d2 (.xd [("at", .non)])) a2 (exq a2 (.ref CR) (some d2))) a2 CR [("at", .non)] := ⟨d2, upd_same, same_new na2 _ _ upd_same⟩
      generalize upd (upd H18 d2 (.xd [("at", .non)])) a2 (exq a2 (.ref CR) (some d2)) = H19 at s19 R19 ⊢
      have Q19 := Q17.same s19
      refine ⟨_, rfl, a1, CR, _, .ref CR, .ref CR, true, rfl, Q19, X.is, .own CR, X.own, _, rfl, iteF ⟨_, rfl, a1, CR, _, .int spot, rfl, Q19, X.is, X.no, rfl, spot, rfl, small_log k0 (by omega), _, rfl, spot, rfl, small_log k0 (by omega), rfl, false, ?_, iteF ?_⟩⟩
      · show V.bl (!decide _) = _
        rw [decide_eq_true rfl]
        rfl
      · have fin := q H19 (D17.same s19) (T17.ext s19) (BN17.trans (But.of s19).n)
        exact ⟨_, rfl, a2, CR, _, .ref CR, .ref CR, true, rfl, R19, X.is, .own CR, X.own, _, rfl, iteT ⟨_, rfl, a2, CR, _, .non, rfl, R19, X.is, X.no, rfl, rfl, fin⟩⟩
end
end Kn
-- part Oq
set_option maxHeartbeats 4000000
/-! == and != of an own instance whose class has an __eq__ of its own, whatever it answers. -/
namespace OwnE
open PySem PySem.W PySem.Spec PyProof.Rows
section
variable {prog : Program} {w : World} {A : Around} {E : Value → Shared → Prop} {s : Shared} {K : Frag} {x C f : Addr} {ox : Obj} {od : Option Obj} {b tb : Value}
/-- object.__ne__ asks the own __eq__ -/
theorem call_ne {Q : Value → Shared → Prop} (X : K.In s.heap) (I : InstAt s.heap x ox C od) (hm : mroIn K C (.type "object") = some true) (hs : findIn K (.ref C) "__eq__" = some (some (.ref f))) (hf : isFn K (.ref f) = true) (hu : A.units + 1 < cLine)
    (h : wpAny (model prog w) A.in1 (call (.ref f) [.ref x, b]) (fun v s' => ∃ c, v = .bool c ∧ Q (.bool (!c)) s') E s) : wpAny (model prog w) A (call (.builtin "object.__ne__") [.ref x, b]) Q E s := by
  obtain ⟨hh, g, dr, t, os⟩ := s
  have L0 := I.type (M := model prog w)
  have L1 := looks_mroIn (M := model prog w) X hm
  refine wpAny_call ?_
  refine codeAny_call_builtin (by decide +kernel) F.cmpEntry_ne ?_
  simp only [checkBuiltinCall, F.cmpKind_ne, F.cmpSplit_ne]
  unfold isInstance
  have hu1 : A.in1.units < cLine := hu
  repeat (first | with_reducible refine wpAny_cRoomFor hu1 ?_ | with_reducible refine ifBound_K X I hs hf (wpAny_mono h (fun v s' hv => ?_) fun _ _ e => e) | lk)
  obtain ⟨c, rfl, q⟩ := hv
  show wpAny _ _ (truthy (.bool c) >>= fun r => ret (Value.bool !r)) _ _ _
  exact wpAny_bind (wpAny_truthy_bool (wpAny_pure q))
/-- x != y -/
theorem rc_ne {h₀ : Heap} {L : Addr} {m : Str → Option Value} {Q : Value → Shared → Prop} (fr : Fr h₀ L s.heap m) (X₀ : K.In h₀) (I : InstAt s.heap x ox C od) (hm : mroIn K C (.type "object") = some true) (hs : findIn K (.ref C) "__eq__" = some (some (.ref f))) (hf : isFn K (.ref f) = true)
    (h0 : findIn K (.ref C) "__ne__" = some (some (.builtin "object.__ne__"))) (hu : A.units + 1 < cLine) (hb : Looks (model prog w) s.heap (typeOf b) tb) (hn : notFirst K C tb = true)
    (h : wpAny (model prog w) A.in1 (call (.ref f) [.ref x, b]) (fun v s' => ∃ c, v = .bool c ∧ Q (.bool (!c)) s') E s) : wpAny (model prog w) A (richCompare .NotEq (.ref x) b) Q E s := by
  have X := X₀.keeps fr.keep
  have asked : wpAny (model prog w) A (tryCompare (.ref x) "__ne__" b) (fun r s' => ∃ c, r = some (.bool c) ∧ Q (.bool c) s') E s := by
    unfold tryCompare
    apply wpAny_bind
    simp only [callSpecialIfBound?, bindSpecialIfBound?]
    apply wpAny_holding
    apply wpAny_bind
    apply wpAny_bind
    refine wpAny_bind (I.type.here ((looks_findIn X h0).here ?_))
    refine wpAny_bind (wpAny_askSetting (wpAny_ite ?_))
    have last : ∀ R : Option Value → Shared → Prop, (∀ c s', Q (.bool c) s' → R (some (.bool c)) s') → wpAny (model prog w) A (call (.builtin "object.__ne__") ([.ref x] ++ [b]) >>= fun v => pure (some v)) R E s := fun R hR =>
      wpAny_bind (call_ne (Q := fun v s' => wpAny (model prog w) A (pure (some v)) R E s') X I hm hs hf hu (wpAny_mono h (fun v s' ⟨c, e, q⟩ => ⟨c, e, wpAny_pure (hR _ _ q)⟩) fun _ _ e => e))
    have ty : typeIn K (.builtin "object.__ne__") = some (.type "wrapper_descriptor") := by kernel_rfl
    have bd : Looks (model prog w) s.heap (bindSpecial (.builtin "object.__ne__") (.ref x)) (.builtin "object.__ne__", [.ref x]) := fun A' Q' E' s' k q => by
      unfold bindSpecial
      refine wpAny_bind (looks_typeIn (M := model prog w) X ty A' _ E' s' k ?_)
      exact wpAny_pure q
    split
    · exact wpAny_bind (bd.here (wpAny_pure (last _ fun c s' q => wpAny_pure ⟨c, rfl, q⟩)))
    · exact wpAny_tryCatch (wpAny_bind (bd.here (wpAny_pure (last _ fun c s' q => wpAny_pure ⟨c, rfl, q⟩))))
  unfold richCompare
  simp only [oneThing_ref]
  apply wpAny_holding
  refine wpAny_bind (wpAny_cRoomFor (by omega) ?_)
  refine wpAny_bind (I.type.here ?_)
  refine wpAny_bind (hb.here ?_)
  split
  · rename_i ne
    have no : subIn K tb (.ref C) = some false := by
      unfold notFirst at hn
      cases e : tb == Value.ref C with
      | true =>
        rw [beq_iff_eq.mp e] at ne
        simp at ne
      | false =>
        rw [e, Bool.false_or] at hn
        exact beq_iff_eq.mp hn
    refine wpAny_bind ((looks_subIn X no).here ?_)
    rw [if_neg (by decide)]
    refine wpAny_bind (wpAny_mono asked (fun r s' ⟨c, e, q⟩ => ?_) fun _ _ e => e)
    subst e
    exact wpAny_pure q
  · refine wpAny_bind (wpAny_pure ?_)
    rw [if_neg (by decide)]
    refine wpAny_bind (wpAny_mono asked (fun r s' ⟨c, e, q⟩ => ?_) fun _ _ e => e)
    subst e
    exact wpAny_pure q
end
end OwnE
namespace L2
open PySem PySem.Spec PyProof.Rows
/-- the other side: an instance of the same class, or a dict -/
def Oth (C : Addr) (H : Hp) (y : V) (tb : Value) : Prop := (∃ b dy gs, y = .ref b ∧ H b = some (.ins C dy gs) ∧ tb = .ref C) ∨ ∃ b ks, y = .ref b ∧ H b = some (.dK ks) ∧ tb = .type "dict"
def rEqO (K : PySem.W.Frag) (C : Addr) (sp : Sp) (E : XK) : R2 := fun x y H Q => ∃ a dx fs tb, x = .ref a ∧ H a = some (.ins C dx fs) ∧ Oth C H y tb ∧ PySem.W.notFirst K C tb = true ∧ sp [x, y] H (fun v H' => ∃ c, v = .bl c ∧ Q (.bl c) H') E
def rNeO (K : PySem.W.Frag) (C : Addr) (sp : Sp) (E : XK) : R2 := fun x y H Q => ∃ a dx fs tb, x = .ref a ∧ H a = some (.ins C dx fs) ∧ Oth C H y tb ∧ PySem.W.notFirst K C tb = true ∧ sp [x, y] H (fun v H' => ∃ c, v = .bl c ∧ Q (.bl (!c)) H') E
section
variable {X : Cx} {CX : CXT} {pins : List (Addr × Obj)} {σ : L2.St} {H : Hp} {s : Shared} {C f : Addr} {fd : FuncData} {ps : List Str} {sp : Sp} {E : XK} {n : Nat}
theorem Oth.look {M : Model} {y : V} {u tb : Value} (I : Inv X pins σ H s) (ry : RelV y u) (h : Oth C H y tb) : PySem.W.Looks M s.heap (typeOf u) tb := by
  rcases h with ⟨b, dy, gs, rfl, hb, rfl⟩ | ⟨b, ks, rfl, hb, rfl⟩
  · cases (show u = Value.ref b from ry)
    obtain ⟨mB, J, _⟩ := ins_get I.hok hb
    obtain ⟨od, J, _⟩ := J.look
    exact J.type
  · cases (show u = Value.ref b from ry)
    obtain ⟨_, _, vs, _, dof⟩ := (show ObjOk X.prog X.w H s.heap b (.dK ks) from I.hok b _ hb)
    obtain ⟨o, ho, hc⟩ := dof.typeIs
    exact hc ▸ (PySem.W.Looks.ld ho).andThen .now
theorem op_eqO (F : FnOk X.prog X.w X.K X.mg X.base CX n f fd ps sp) (hb : Binds X.K fd ps []) (hs : PySem.W.findIn X.K (.ref C) "__eq__" = some (some (.ref f))) (hf : PySem.W.isFn X.K (.ref f) = true) (hr : Room n X.A) (hx : Passes CX X E) : OpR X (compareOp .Eq) (rEqO X.K C sp E) := by
  rintro pins s σ H x y v u Q I rx ry ⟨a, dx, fs, tb, rfl, ha, ho, hn, q⟩
  have lb := ho.look (M := model X.prog X.w) I ry
  cases (show v = Value.ref a from rx)
  obtain ⟨mA, J, _⟩ := ins_get I.hok ha
  obtain ⟨od, J, _⟩ := J.look
  obtain ⟨m, hF⟩ := I.fr
  show wpAny _ _ (richCompare .Eq _ _) _ _ _
  refine PySem.W.cmp_K (op := .Eq) (tb := tb) hr.units0 hF I.ok.mod.kin J lb hn hs hf ?_
  refine wpAny_mono (wpAny_call (run_fnR (us := [.ref a, u]) (vs := [.ref a, y]) (F.raw hb .nil) hr hx I (.cons rfl (.cons ry .nil)) q)) (fun z s' e => ?_) fun _ _ e => e
  obtain ⟨z', H', I', rz, c, ec, qz⟩ := e
  subst ec
  exact SlX.cmpback rz ⟨.bl c, H', I', rz, qz⟩
theorem op_neO (F : FnOk X.prog X.w X.K X.mg X.base CX n f fd ps sp) (hb : Binds X.K fd ps []) (hs : PySem.W.findIn X.K (.ref C) "__eq__" = some (some (.ref f))) (hf : PySem.W.isFn X.K (.ref f) = true) (h0 : PySem.W.findIn X.K (.ref C) "__ne__" = some (some (.builtin "object.__ne__"))) (hm : PySem.W.mroIn X.K C (.type "object") = some true) (hr : Room (n + 1) X.A) (hx : Passes CX X E) : OpR X (compareOp .NotEq) (rNeO X.K C sp E) := by
  rintro pins s σ H x y v u Q I rx ry ⟨a, dx, fs, tb, rfl, ha, ho, hn, q⟩
  have lb := ho.look (M := model X.prog X.w) I ry
  cases (show v = Value.ref a from rx)
  obtain ⟨mA, J, _⟩ := ins_get I.hok ha
  obtain ⟨od, J, _⟩ := J.look
  obtain ⟨m, hF⟩ := I.fr
  show wpAny _ _ (richCompare .NotEq _ _) _ _ _
  refine OwnE.rc_ne hF I.ok.mod.kin J hm hs hf h0 ?_ lb hn ?_
  · have z := (hr.in1).units0
    exact z
  refine wpAny_mono (wpAny_call (SlX.run_at (us := [.ref a, u]) (ws := [.ref a, y]) (F.raw hb .nil) hr.in1 I.env0.in1 hx I (.cons rfl (.cons ry .nil)) q)) (fun z s' e => ?_) fun _ _ e => e
  obtain ⟨z', H', I', rz, c, ec, qz⟩ := e
  subst ec
  exact ⟨c, rz, .bl (!c), H', I', rfl, qz⟩
end
end L2
-- part Gd
set_option maxHeartbeats 4000000
/-! Promises of defs that ask for the text of a value: what runs around them holds no open repr. -/
namespace Gd
open PySem PySem.Spec PyProof.Rows L2
section
variable (P : Program) (w : World) (K : PySem.W.Frag) (mg : Str → Option Value) (base : Heap)
structure FnOkG (CX : CXT) (k : Nat) (f : Addr) (fd : FuncData) (ps : List Str) (sp : Sp) : Prop where
  len : ∀ vs H Q E, sp vs H Q E → vs.length = ps.length
  run : ∀ (A : Around) (outer : List Env) (s : Shared) (H : Hp) (args : Args) (us : List Value) (vs : List V) (Q : VK) (E : XK),
    Room k A → A.guards = some [] → Env0 P w K mg base A outer s H → BindsTo s fd args (ps.zip us) → Vals vs us → sp vs H Q E →
      codeAny (model P w) A (.call (.ref f) args) (CR CX outer P w H s Q E) s
end
section
variable {P : Program} {w : World} {K : PySem.W.Frag} {mg : Str → Option Value} {base : Heap} {CX : CXT} {k j : Nat} {f : Addr} {fd : FuncData} {ps : List Str} {sp : Sp}
theorem FnOkG.of (F : FnOk P w K mg base CX k f fd ps sp) : FnOkG P w K mg base CX k f fd ps sp :=
  ⟨F.len, fun A outer s H args us vs Q E hr _ e0 hb r h => F.run A outer s H args us vs Q E hr e0 hb r h⟩
theorem FnOkG.mono (F : FnOkG P w K mg base CX j f fd ps sp) (h : j ≤ k) : FnOkG P w K mg base CX k f fd ps sp :=
  ⟨F.len, fun A outer s H args us vs Q E hr => F.run A outer s H args us vs Q E (hr.mono h)⟩
theorem okG_of {name qual : Str} {params : Arguments} {body : List Stmt} {scope : Scope} {dV kV doc pm cdv ct oc : Value} {an od : Option Addr} {osl : Array (Option Value)} {N : List Str}
    (lk : K.lookup f = some ⟨oc, od, .func (PySem.W.fnOf name qual params body scope dV kV doc pm an cdv ct), osl⟩) (hcd : PySem.W.codeIn K cdv qual = true)
    (S : FnScope N ps scope) (len : ∀ vs H Q E, sp vs H Q E → vs.length = ps.length)
    (hbody : ∀ (A : Around) (outer : List Env) (s : Shared) (H : Hp) (vs : List V) (Q : VK) (E : XK), Room k (A.deeper (envOfC qual scope s.heap.objs.size f cdv)) → A.guards = some [] → sp vs H Q E →
      ∃ t, PSs (cxOf CX P w K mg base N qual scope f cdv A outer s H E) body t ∧ t { nx := fun _ H' => Q .non H', rt := Q } (start N vs) H) :
    FnOkG P w K mg base CX (k + 1) f (PySem.W.fnOf name qual params body scope dV kV doc pm an cdv ct) ps sp := by
  refine ⟨len, fun A outer s H args us vs Q E hr hg e0 hb r hsp => ?_⟩
  have eql := len _ _ _ _ hsp
  have kin : K.In s.heap := e0.mod.kin.keeps fun b o z => (e0.bs b o z).1
  have lim := e0.mod.nolimit.keeps fun b o z => (e0.bs b o z).1
  have kinds : ∀ y ∈ ps.zip us, scope.names.lookup y.1 = some .local ∨ (scope.names.lookup y.1 = some .cell ∧ ((cellsFrom (s.heap.objs.size + 1) scope.names []).lookup y.1).isSome = true) := by
    rintro ⟨n, v⟩ hy
    rcases S.par n (List.of_mem_zip hy).1 with z | z
    · exact .inl z
    · exact .inr ⟨z, PySem.W.cellsFrom_some _ _ _ (.inl z)⟩
  refine codeAny_call_function hr.depth (kin _ _ lk) rfl S.co S.gen rfl (PySem.W.codeRec_of kin hcd) (hb _ _ _ _ ?_)
  refine wpAny_newFunctionEnv_cells S.kind kinds fun env he s1 x => ?_
  subst he
  refine ⟨lim.keeps x.toInCall.keep, codeAny_func ?_⟩
  obtain ⟨t, ht, hq⟩ := hbody A outer s H vs Q E (hr.deeper _) hg hsp
  have I : Inv (cxOf CX P w K mg base N qual scope f cdv A outer s H E) [] (start N vs) H s1 := inv_start S hr.hd e0 eql r x
  refine wpAny_mono (ht.run [] s1 (start N vs) H _ I hq) (fun fl s' hs => ?_) fun _ _ z => z
  cases fl with
  | next =>
    obtain ⟨σ', H', J, q⟩ := hs
    exact ⟨.non, H', J.os, J.bare, J.base, J.hok, rfl, q⟩
  | ret u =>
    obtain ⟨v, σ', H', J, rv, q⟩ := hs
    exact ⟨v, H', J.os, J.bare, J.base, J.hok, rv, q⟩
  | brk =>
    obtain ⟨_, _, _, q⟩ := hs
    exact q.elim
  | cont =>
    obtain ⟨_, _, _, q⟩ := hs
    exact q.elim
/-- THE RULE for such a def -/
theorem okG {x qual : Str} {st : Stmt} {N : List Str} (F : Fun K x qual st f fd) (S : FnScope N ps (defScope st)) (len : ∀ vs H Q E, sp vs H Q E → vs.length = ps.length)
    (hbody : ∀ (cdv : Value) (A : Around) (outer : List Env) (s : Shared) (H : Hp) (vs : List V) (Q : VK) (E : XK), Room k (A.deeper (envOfC qual (defScope st) s.heap.objs.size f cdv)) → A.guards = some [] → sp vs H Q E →
      ∃ t, PSs (cxOf CX0 P w K mg base N qual (defScope st) f cdv A outer s H E).nox (defBody st) t ∧ t { nx := fun _ H' => Q .non H', rt := Q } (start N vs) H) :
    FnOkG P w K mg base CX0 (k + 1) f fd ps sp := by
  obtain ⟨oc, od, kV, doc, pm, an, cdv, ct, osl, rfl, lk, hcd⟩ := F.ex
  refine okG_of lk hcd S len fun A outer s H vs Q E hr hg hsp => ?_
  obtain ⟨t, h, q⟩ := hbody cdv A outer s H vs Q E hr hg hsp
  exact ⟨t, h.nox, q⟩
end
/-- a call of such a def -/
theorem callG {X : Cx} {CX : CXT} {k : Nat} {f : Addr} {fd : FuncData} {ps : List Str} {sp : Sp} {E : XK} {x : Str} {p pos : Pos} {e : Expr} {es : List Expr} {t : TA}
    (F : FnOkG X.prog X.w X.K X.mg X.base CX k f fd ps sp) (hr : Room k X.A) (gd : X.A.guards = some []) (hg : Gl X x) (hm : X.mg x = some (.ref f)) (hk : PySem.W.keepIn X.K (.ref f) = true) (hb : Binds X.K fd ps []) (hx : Passes CX X E)
    (ha : PA X (e :: es) t) (hdb : (x == ("__debug__" : Str)) = false := by decide) (he : starEach (e :: es) X.env = (false, eval e X.env) :: starEach es X.env := by rfl)
    (hpl : (backTo pos (starEach es X.env)).any (·.1) = false := by rfl) : PE X (.Call (.Name x p) (e :: es) [] pos) (tCall sp [] E t) := by
  refine ⟨fun pins s σ H Q I h => ?_⟩
  refine wpAny_Call_Name_kw (ld_glob I hg hm ?_ hdb)
  refine PySem.W.callWith_K (h₀ := X.base) I.ok.mod.kin hk (thn (ha.run pos pins s σ H _ I h) fun us s1 ⟨vs, H1, I1, r, q⟩ => ⟨I1.kIn, ?_⟩) he hpl
  have q' : sp (vs ++ []) H1 Q E := q
  rw [List.append_nil] at q'
  have hl : us.length = ps.length := by
    rw [← r.length]
    exact F.len _ _ _ _ q'
  refine wpAny_call (codeAny_mono (F.run X.A X.stack s1 H1 ⟨us, []⟩ us vs Q E hr gd I1.env0 (by have z := hb s1 us I1.kIn (by rw [List.append_nil]; exact hl); rw [List.append_nil] at z; exact z) r q') fun r s' hq => ?_)
  cases r with
  | error er => exact hx pins σ H1 s1 er s' I1 hq
  | ok fl =>
    cases fl with
    | ret u => exact I1.after hq
    | next => exact False.elim hq
    | brk => exact False.elim hq
    | cont => exact False.elim hq
end Gd
-- part Rp
set_option maxHeartbeats 4000000
/-! repr of values that are data, dicts of texts among them. -/
namespace Rp
open PySem PySem.Spec PyProof.Rows L2
/-- v is to be read as the datum d -/
def Tx (K : PySem.W.Frag) (H : Hp) (v : V) (d : PyData) : Prop :=
  ∀ (X : Cx) (pins : List (Addr × Obj)) (σ : L2.St) (s : Shared), X.K = K → Inv X pins σ H s → ∀ u, L2.RelV v u → ∃ as, Reads s.heap u d as ∧ (d.hasDict = true → sysModules ∉ as)
section
variable {K : PySem.W.Frag} {H : Hp}
theorem Tx.dp {v : V} {d : PyData} (h : Dp K H v d) (n : d.hasDict = false) : Tx K H v d := by
  rintro X pins σ s rfl I u ru
  obtain ⟨as, r⟩ := Dp.reads I d v u h ru
  exact ⟨as, r, fun z => by rw [n] at z; cases z⟩
theorem rep_dict {d : PyData} {n : Nat} : PyData.hasDictAll (List.replicate (n + 1) d) = d.hasDict := by
  induction n with
  | zero => show (d.hasDict || false) = d.hasDict; rw [Bool.or_false]
  | succ n ih =>
    show (d.hasDict || PyData.hasDictAll (List.replicate (n + 1) d)) = d.hasDict
    rw [ih, Bool.or_self]
theorem Tx.rep {l : Addr} {v : V} {d : PyData} {n : Nat} (h : H l = some (.lst (List.replicate (n + 1) v))) (hv : Tx K H v d) (hm : ∃ o, K.lookup sysModules = some o) : Tx K H (.ref l) (.list (List.replicate (n + 1) d)) := by
  rintro X pins σ s rfl I u ru
  obtain rfl : u = Value.ref l := ru
  obtain ⟨hz, its, m, rv, ho⟩ := I.hok _ _ h
  have all : ∀ (k : Nat) (us : List Value), Vals (List.replicate k v) us → ∃ as, ReadsAll s.heap us (List.replicate k d) as ∧ (d.hasDict = true → sysModules ∉ as) := by
    intro k
    induction k with
    | zero =>
      intro us r
      cases r
      exact ⟨[], .nil, fun _ => by simp⟩
    | succ k ih =>
      intro us r
      cases r with
      | cons r1 r2 =>
        obtain ⟨as, q1, z1⟩ := hv X pins σ s rfl I _ r1
        obtain ⟨bs, q2, z2⟩ := ih _ r2
        exact ⟨as ++ bs, .cons q1 q2, fun z => by
          intro y
          rcases List.mem_append.mp y with y | y
          · exact z1 z y
          · exact z2 z y⟩
  obtain ⟨as, q, z⟩ := all _ _ rv
  refine ⟨l :: as, Reads.list ho rfl rfl (by simpa using q), fun y => ?_⟩
  have y' : d.hasDict = true := (rep_dict (d := d) (n := n)).symm.trans y
  intro w
  rcases List.mem_cons.mp w with w | w
  · obtain ⟨o, e⟩ := hm
    have z2 := (I.bs _ _ (I.ok.mod.kin _ _ e)).2
    rw [w, h] at z2
    cases z2
  · exact z y' w
end
/-- the same, and no list on the way is the table of modules -/
def Ty (K : PySem.W.Frag) (H : Hp) (v : V) (d : PyData) : Prop :=
  ∀ (X : Cx) (pins : List (Addr × Obj)) (σ : L2.St) (s : Shared), X.K = K → Inv X pins σ H s → ∀ u, L2.RelV v u → ∃ as, Reads s.heap u d as ∧ sysModules ∉ as
def kD : Key → PyData
  | .inl i => .int i
  | .inr x => .str x
section
variable {K : PySem.W.Frag} {H : Hp}
theorem Ty.tx {v : V} {d : PyData} (h : Ty K H v d) : Tx K H v d := fun X pins σ s e I u ru =>
  let ⟨as, r, z⟩ := h X pins σ s e I u ru
  ⟨as, r, fun _ => z⟩
theorem Ty.tup0 {a : Addr} (h : H a = some (.tup [])) : Ty K H (.ref a) (.tuple []) := by
  rintro X pins σ s rfl I u ru
  obtain rfl : u = Value.ref a := ru
  obtain ⟨its, rv, ⟨o, ho, hc, n, hd⟩, _⟩ := I.tuple (SqT.of h)
  cases rv
  exact ⟨[], Reads.tuple ho hc hd .nil, by simp⟩
theorem Ty.dK {a : Addr} {kvs : List (Key × V)} {ds : List PyData} (h : H a = some (.dK kvs)) (hd : Paired (fun (kv : Key × V) d => Ty K H kv.2 d) kvs ds) : Ty K H (.ref a) (.dict ((kvs.map fun kv => kD kv.1).zip ds)) := by
  rintro X pins σ s rfl I u ru
  obtain rfl : u = Value.ref a := ru
  obtain ⟨hz, hs, vs, rel, o, es, ep, ho, ⟨hc, _, _⟩, hdat, _, hp, _⟩ := I.hok _ _ h
  have all : ∀ (es : List DictEntry) (vs : List (Key × Value)) (kvs : List (Key × V)) (ds : List PyData), Pairs (mixKind X.prog X.w) es vs → KV kvs vs → Paired (fun (kv : Key × V) d => Ty X.K H kv.2 d) kvs ds →
      ReadsAll s.heap (es.map (·.key)) (((kvs.map fun kv => kD kv.1).zip ds).map (·.1)) [] ∧ ∃ bs, ReadsAll s.heap (es.map (·.val)) (((kvs.map fun kv => kD kv.1).zip ds).map (·.2)) bs ∧ sysModules ∉ bs := by
    intro es vs kvs ds p
    induction p generalizing kvs ds with
    | nil =>
      intro r q
      cases r
      cases q
      exact ⟨.nil, [], .nil, by simp⟩
    | @cons e kv es vs k1 k2 _ ih =>
      intro r q
      cases r with
      | @cons kv' _ kvs' _ r1 r2 =>
        cases q with
        | @cons _ d _ ds' q1 q2 =>
          obtain ⟨i1, bs, i2, i3⟩ := ih _ _ r2 q2
          obtain ⟨as, z1, z2⟩ := q1 X pins σ s rfl I _ r1.2
          have ek : Reads s.heap e.key (kD kv'.1) [] := by
            have k1' : keyIs kv.1 e.key = true := k1
            rw [← r1.1] at k1'
            rcases keyIs_shape k1' with ⟨i, t, e1, e2⟩ | ⟨x, t, e1, e2⟩
            · rw [e1, e2]
              exact .int i t
            · rw [e1, e2]
              exact .str x t
          refine ⟨.cons ek i1, as ++ bs, .cons (by show Reads s.heap e.val d as; rw [k2]; exact z1) i2, fun w => ?_⟩
          rcases List.mem_append.mp w with w | w
          · exact z2 w
          · exact i3 w
  obtain ⟨i1, bs, i2, i3⟩ := all _ _ _ _ hp rel hd
  refine ⟨_, Reads.dict ho hc hdat i1 i2, fun w => ?_⟩
  rcases List.mem_append.mp w with w | w
  · rcases List.mem_cons.mp w with w | w
    · rw [← w] at hs
      simp at hs
    · simp at w
  · exact i3 w
end
/-- repr(v) -/
def rRp (K : PySem.W.Frag) : List V → Hp → VK → Prop := fun xs H Q => ∃ v d, xs = [v] ∧ Tx K H v d ∧ d.showable = true ∧ d.depth ≤ 60 ∧ d.shown.length ≤ sizeLine ∧ Q (.str d.shown) H
theorem call_rp {X : Cx} (gd : X.A.guards = some []) (hu : X.A.units + 64 < cLine) : CallR X (.builtin "repr") (rRp X.K) := by
  intro pins s σ H xs us Q I r h
  obtain ⟨v, d, rfl, hv, hs, hd, hz, q⟩ := h
  obtain ⟨u, rfl, ru⟩ : ∃ u, us = [u] ∧ L2.RelV v u := by
    cases r with
    | cons r1 r2 =>
      cases r2
      exact ⟨_, rfl, r1⟩
  obtain ⟨as, rd, hm⟩ := hv X pins σ s rfl I u ru
  have fin : ∀ h' u tk, (∀ b o, s.heap.get? b = some o → h'.get? b = some o) → EP X pins σ Q (.str d.shown u) { s with heap := h', toks := tk } := fun h' u tk k => ⟨.str d.shown, H, I.kept k, ⟨u, rfl⟩, q⟩
  have tok : ∀ u tk, EP X pins σ Q (.str d.shown u) { s with toks := tk } := fun u tk => fin s.heap u tk fun _ _ z => z
  cases rd with
  | none => exact PySem.P.repr_of_none (tok _ _)
  | bool b => exact PySem.P.repr_of_bool (tok _ _)
  | int i t => exact PySem.P.repr_of_int (of_decide_eq_true hs) (tok _ _)
  | str x t => exact PySem.P.repr_of_str (tok _ _) hz
  | list h1 h2 h3 h4 => exact repr_of_reads' (.list h1 h2 h3 h4) hs hm gd (by omega) (fun _ _ z => z) (fun h' u tk k => fin h' u tk k) hz
  | tuple h1 h2 h3 h4 => exact repr_of_reads' (.tuple h1 h2 h3 h4) hs hm gd (by omega) (fun _ _ z => z) (fun h' u tk k => fin h' u tk k) hz
  | dict h1 h2 h3 h4 h5 => exact repr_of_reads' (.dict h1 h2 h3 h4 h5) hs hm gd (by omega) (fun _ _ z => z) (fun h' u tk k => fin h' u tk k) hz
end Rp
-- part Lc
set_option maxHeartbeats 8000000
namespace Kn
open PySem PySem.Spec PyProof.Rows L2 Err LamX
abbrev sLaw : Stmt := topS 36
abbrev NLa : List Str := ["_law_script", "_law_draw", "_law_turn", "_law_model", "_law_bend", "_law_due_here", "_law_error", "_law_made", "_law_same", "_law_near", "_law_key", "_law_lines", "_law_some", "_law_kept", "_law_shown", "_law_ordered", "_law_found", "_law_good_here", "_law_steps_here", "_law_state"]
theorem scLa : FnScope NLa ["_law_script"] (defScope sLaw) := ⟨rfl, rfl, rfl, by decide +kernel, rfl, by decide +kernel, by decide +kernel⟩
def forOf : Stmt → List Stmt
  | .For _ _ b _ _ => b
  | _ => []
abbrev lawFor : Stmt := (defBody sLaw).getD 1 (.Pass ⟨0, 0, 0, 0⟩)
abbrev lawSt (i : Nat) : Stmt := (forOf lawFor).getD i (.Pass ⟨0, 0, 0, 0⟩)
/-- the law's names -/
def SL (v : Nat → Option V) : L2.St := [v 0, v 1, v 2, v 3, v 4, v 5, v 6, v 7, v 8, v 9, v 10, v 11, v 12, v 13, v 14, v 15, v 16, v 17, v 18, v 19]
def put (v : Nat → Option V) (i : Nat) (x : V) : Nat → Option V := fun j => if j = i then some x else v j
/-- a statement: from what to what -/
def Hst (X : Cx) (st : Stmt) (Pre Post : (Nat → Option V) → Hp → Prop) : Prop := PS X st (fun D σ H => ∃ v, σ = SL v ∧ Pre v H ∧ ∀ v' H', Post v' H' → D.nx (SL v') H')
theorem Hst.of {X : Cx} {st : Stmt} {Pre Post : (Nat → Option V) → Hp → Prop} {t : TS} (h : PS X st t) (i : ∀ D v H, Pre v H → (∀ v' H', Post v' H' → D.nx (SL v') H') → t D (SL v) H) : Hst X st Pre Post :=
  ⟨fun pins s σ H D I ⟨v, e, p, q⟩ => h.run pins s σ H D I (by subst e; exact i D v H p q)⟩
def Hss (X : Cx) (st : List Stmt) (Pre Post : (Nat → Option V) → Hp → Prop) : Prop := PSs X st (fun D σ H => ∃ v, σ = SL v ∧ Pre v H ∧ ∀ v' H', Post v' H' → D.nx (SL v') H')
theorem Hss.one {X : Cx} {st : Stmt} {A B : (Nat → Option V) → Hp → Prop} (h : Hst X st A B) : Hss X [st] A B := ⟨fun pins s σ H D I z => (pss_one h).run pins s σ H D I z⟩
theorem Hss.cons {X : Cx} {st : Stmt} {r : List Stmt} {A B C : (Nat → Option V) → Hp → Prop} (h : Hst X st A B) (h2 : Hss X r B C) : Hss X (st :: r) A C :=
  ⟨fun pins s σ H D I ⟨v, e, p, q⟩ => (pss_cons h h2).run pins s σ H D I ⟨v, e, p, fun v' H' p' => ⟨v', rfl, p', q⟩⟩⟩
/-- a def of the law's own -/
def Df (P : Program) (w : World) (K : PySem.W.Frag) (mg : Str → Option Value) (base : Heap) (CX : CXT) (k : Nat) (x : Str) (ps : List Str) (sp : Sp) : Prop := ∃ (f : Addr) (fd : FuncData), FnOk P w K mg base CX k f fd ps sp ∧ PySem.W.keepIn K (.ref f) = true ∧ Binds K fd ps [] ∧ mg x = some (.ref f)
/-- a property of the class -/
def Pd (P : Program) (w : World) (K : PySem.W.Frag) (mg : Str → Option Value) (base : Heap) (C : Addr) (x : Str) (sp : Sp) : Prop := ∃ (p f : Addr) (fd : FuncData), FnOk P w K mg base CX0 1 f fd ["self"] sp ∧ PropOf K C x p f ∧ Binds K fd ["self"] []
/-- what the law knows of all that it calls -/
structure LEnv (P : Program) (w : World) (K : PySem.W.Frag) (mg : Str → Option Value) (base : Heap) (T : List (Addr × Str)) (C CB CS : Addr) : Prop where
  begun : Df P w K mg base CX0 1 "_law_begun" ["_law_script"] (spBegun K)
  take : Df P w K mg base CX0 2 "_law_take" ["_law_draw", "_law_amount"] spTake
  shuf : Df P w K mg base CX0 3 "_law_shuffled" ["_law_draw", "_law_some"] spShuf
  titles : Df P w K mg base CX0 4 "_law_titles" ["_law_draw", "_law_many"] spTitles
  pat : Df P w K mg base CX0 3 "_law_pattern" ["_law_draw", "_law_sorts_here", "_law_most"] spLPat
  due : Df P w K mg base CX0 2 "_law_due" ["_law_steps_here", "_law_good_here"] (spOr spLDue (spLDue2 P w))
  spo : Df P w K mg base CX0 4 "_law_spoilt" ["_law_draw", "_law_steps_here", "_law_good_here"] (spLSpo P w)
  right : Df P w K mg base CX0 7 "_law_rows_right" ["_law_draw", "_law_made", "_law_model"] (spLRight T C)
  caught : ∃ (f : Addr) (fd : FuncData), Fun K "_law_caught" "_law_caught" sCaught f fd ∧ Binds K fd ["_law_work"] [] ∧ mg "_law_caught" = some (.ref f)
  make : ∃ (f : Addr) (fd : FuncData), FnOk P w K mg base (L2.CX P w) 5 f fd ["self", "steps", "good"] (spOr (spInit C CB) (spInit2 P w C CB)) ∧ Mk K C f ∧ Binds K fd ["self", "steps", "good"] [] ∧ ∀ (s : Shared) (u a b : Value), K.In s.heap → BindsTo s fd ⟨[u], [("good", a), ("steps", b)]⟩ [("self", u), ("steps", b), ("good", a)]
  gC : mg "Pattern" = some (.ref C)
  tx : PTxt K C
  eq : ∃ (f : Addr) (fd : FuncData), FnOk P w K mg base CX0 1 f fd ["self", "other"] (spEqP K C) ∧ Binds K fd ["self", "other"] [] ∧ PySem.W.findIn K (.ref C) "__eq__" = some (some (.ref f)) ∧ PySem.W.isFn K (.ref f) = true
  ne0 : PySem.W.findIn K (.ref C) "__ne__" = some (some (.builtin "object.__ne__"))
  nf1 : PySem.W.notFirst K C (.ref C) = true
  nf2 : PySem.W.notFirst K C (.type "dict") = true
  dct : PySem.W.kitOne K (.type "dict") (.ref C) = some false
  hm : PySem.W.mroIn K C (.type "object") = some true
  p1 : Pd P w K mg base C "steps" (spSt1 C)
  p2 : Pd P w K mg base C "good" (spSt2 C)
  p3 : Pd P w K mg base C "states" (spSt3 C)
  p4 : Pd P w K mg base C "kinds" (spSt4 C)
  gB : mg "BadPattern" = some (.ref CB)
  is : Isi K CB
  own : PySem.W.kitOne K (.ref CB) (.ref CB) = some true
  no : PySem.W.findIn K (.ref CB) "part" = some none
  ex : PySem.W.exmOne K (.ref CB) (.ref CS) = some true
  gS : mg "StillError" = some (.ref CS)
  fr : ∀ x : Str, x ∈ (["range", "max", "min", "len", "isinstance", "dict", "list", "sorted", "tuple", "repr"] : List Str) → mg x = none
/-! ### what a drawn model is -/
def modW (st : List (Str × List Int)) : W := .dct (st.map fun p => (some (.inr p.1), .lst (p.2.map W.int)))
structure Mo (d l : Addr) (H : Hp) (m sd g : Addr) (kvs : List (Key × V)) (st : List (Str × List Int)) (gs : List Int) (n : Nat) : Prop where
  at_ : ModAt (cut d l H) m sd g kvs st gs
  ok : PatOk n st
  inT : ∀ t ∈ st.map (·.1), t ∈ TI
  so : sortedS (st.map (·.1)) = true
  rng : ∀ k ∈ gs, 0 ≤ k ∧ k < (n : Int)
  pw : gs.Pairwise (· < ·)
theorem Mo.n {d l : Addr} {H H' : Hp} {m sd g : Addr} {kvs : List (Key × V)} {st : List (Str × List Int)} {gs : List Int} {n : Nat} (h : Mo d l H m sd g kvs st gs n) (B : ButN d l H H') : Mo d l H' m sd g kvs st gs n := ⟨h.at_.same B.cut, h.ok, h.inT, h.so, h.rng, h.pw⟩
theorem ti_all : ∀ t ∈ TI, isName t = true ∧ t.cps.size ≤ 900 ∧ PyData.strOk t = true ∧ t ≠ "nokind" ∧ t ≠ "zz" ∧ t.cps.size ≤ 6 := by decide +kernel
/-! ### sorted names are one -/
def idxT (t : Str) : Nat := TI.idxOf t
theorem idx_lt : ∀ a ∈ TI, ∀ b ∈ TI, ltCps b.cps.toList a.cps.toList = false → idxT a ≤ idxT b := by decide +kernel
theorem idx_back : ∀ a ∈ TI, TI.getD (idxT a) "" = a := by decide +kernel
theorem rising_idx : ∀ (r : List Str) (p : Str), p ∈ TI → (∀ t ∈ r, t ∈ TI) → risingS p r = true → ((p :: r).map idxT).Pairwise (· ≤ ·)
  | [], p, _, _, _ => List.pairwise_singleton _ _
  | x :: r, p, hp, hr, h => by
    obtain ⟨h1, h2⟩ := Bool.and_eq_true_iff.mp (show (!ltCps x.cps.toList p.cps.toList && risingS x r) = true from h)
    have hx := hr x (List.mem_cons_self ..)
    have ih := rising_idx r x hx (fun t ht => hr t (List.mem_cons_of_mem _ ht)) h2
    have l1 := idx_lt p hp x hx (by simpa using h1)
    refine List.Pairwise.cons (fun i hi => ?_) ih
    rw [List.map_cons] at hi ih
    rcases List.mem_cons.mp hi with e | e
    · rw [e]; exact l1
    · exact Nat.le_trans l1 ((List.pairwise_cons.mp ih).1 i e)
theorem sorted_one {a b : List Str} (h : a.Perm b) (ha : sortedS a = true) (hb : sortedS b = true) (inT : ∀ t ∈ b, t ∈ TI) : a = b := by
  have inA : ∀ t ∈ a, t ∈ TI := fun t ht => inT t (h.mem_iff.mp ht)
  have pw : ∀ l : List Str, (∀ t ∈ l, t ∈ TI) → sortedS l = true → (l.map idxT).Pairwise (· ≤ ·) := fun l hl hs => by
    cases l with
    | nil => exact List.Pairwise.nil
    | cons x r => exact rising_idx r x (hl x (List.mem_cons_self ..)) (fun t ht => hl t (List.mem_cons_of_mem _ ht)) hs
  have e : a.map idxT = b.map idxT := List.Perm.eq_of_pairwise (fun _ _ _ _ h1 h2 => Nat.le_antisymm h1 h2) (pw a inA ha) (pw b inT hb) (h.map _)
  have back : ∀ l : List Str, (∀ t ∈ l, t ∈ TI) → (l.map idxT).map (fun i => TI.getD i "") = l := fun l hl => by
    rw [List.map_map]
    conv => rhs; rw [← List.map_id l]
    exact List.map_congr_left fun t ht => idx_back t (hl t ht)
  rw [← back a inA, e, back b inT]
theorem ints_one {a b : List Int} (h : a.Perm b) (ha : a.Pairwise (· ≤ ·)) (hb : b.Pairwise (· < ·)) : a = b :=
  List.Perm.eq_of_pairwise (fun _ _ _ _ h1 h2 => Int.le_antisymm h1 h2) ha (hb.imp fun h => Int.le_of_lt h) h
theorem st_one : ∀ {a b : List (Str × List Int)}, a.map (·.1) = b.map (·.1) → (a.map (·.1)).Nodup → (∀ t, a.lookup t = b.lookup t) → a = b
  | [], [], _, _, _ => rfl
  | [], _ :: _, e, _, _ => by cases e
  | _ :: _, [], e, _, _ => by cases e
  | (k, v) :: a, (k2, v2) :: b, e, nd, h => by
    obtain ⟨e1, e2⟩ := List.cons.inj (show k :: a.map (·.1) = k2 :: b.map (·.1) from e)
    subst e1
    obtain ⟨n1, n2⟩ := List.nodup_cons.mp (show (k :: a.map (·.1)).Nodup from nd)
    have hv := h k
    rw [look_cons, look_cons, if_pos rfl, if_pos rfl] at hv
    cases hv
    rw [st_one e2 n2 fun t => ?_]
    by_cases q : k = t
    · rw [look_none (q ▸ n1), look_none (by rw [← e2]; exact q ▸ n1)]
    · have z := h t
      rw [look_cons, look_cons, if_neg q, if_neg q] at z
      exact z
end Kn
-- part La
set_option maxHeartbeats 8000000
namespace Kn
open PySem PySem.Spec PyProof.Rows L2 Err LamX
theorem Hst.post {X : Cx} {st : Stmt} {A B C : (Nat → Option V) → Hp → Prop} (h : Hst X st A B) (i : ∀ v H, B v H → C v H) : Hst X st A C :=
  ⟨fun pins s σ H D I ⟨v, e, p, q⟩ => h.run pins s σ H D I ⟨v, e, p, fun v' H' z => q v' H' (i _ _ z)⟩⟩
/-- the law's context -/
abbrev XL (P : Program) (w : World) (K : PySem.W.Frag) (mg : Str → Option Value) (base : Heap) (f c0 : Addr) (A : Around) (outer : List Env) (s : Shared) (H : Hp) (E : XK) : Cx := (cxOf CX0 P w K mg base NLa "law" (defScope sLaw) f (.ref c0) A outer s H E).nox
section
variable (P : Program) (w : World) (T : List (Addr × Str)) (d l c : Addr)
def Q0 (v : Nat → Option V) (H : Hp) : Prop := v 1 = some (.ref d) ∧ Drw H d l c ∧ Tabs T H
def QM (v : Nat → Option V) (H : Hp) (m sd g : Addr) (kvs : List (Key × V)) (st : List (Str × List Int)) (gs : List Int) (n : Nat) : Prop := Q0 T d l c v H ∧ v 3 = some (.ref m) ∧ Mo d l H m sd g kvs st gs n
def Q1 (v : Nat → Option V) (H : Hp) : Prop := ∃ m sd g kvs st gs n, QM T d l c v H m sd g kvs st gs n
def Q2 (v : Nat → Option V) (H : Hp) : Prop := ∃ m sd g kvs st gs n, QM T d l c v H m sd g kvs st gs n ∧ ∃ vs vg, v 18 = some vs ∧ v 17 = some vg ∧ Fst P w (cut d l H) vs ∧ Gst (cut d l H) vg
def DueR (H : Hp) (vs vg : V) (dl : List V) : Prop := (∃ u ug, Is (cut d l H) vs u ∧ NF (cut d l H) vs ∧ Nok (cut d l H) vs ∧ Is (cut d l H) vg ug ∧ Tok (cut d l H) vg ∧ dl = dueL u ug) ∨ (∃ a ks, vs = .ref a ∧ NdOk P w (cut d l H) a ks ∧ Gst (cut d l H) vg ∧ dl = [.str "steps"])
def Q4 (v : Nat → Option V) (H : Hp) : Prop := ∃ m sd g kvs st gs n H0, QM T d l c v H m sd g kvs st gs n ∧ Mo d l H0 m sd g kvs st gs n ∧ ButN d l H0 H ∧ Drw H0 d l c ∧ ∃ vs vg due found dl, v 18 = some vs ∧ v 17 = some vg ∧ v 5 = some (.ref due) ∧ v 16 = some (.ref found) ∧ H0 found = none ∧ due ≠ found ∧
  cut d l H due = some (.lst dl) ∧ cut d l H found = some (.lst []) ∧ DueR P w d l H vs vg dl
end
theorem StepL.cutH {d l c : Addr} {H H1 : Hp} {many : Nat} {ts : List Str} {kvs : List (Key × V)} {ws : List (Str × List Int)} (h : StepL H H1 many ts kvs ws) (D : Drw H d l c) : StepL H (cut d l H1) many ts kvs ws := h.mono fun a xs n e => cut_at e (D.off n).1 (D.off n).2
theorem Drw.bN {d l c : Addr} {H H' : Hp} (D : Drw H d l c) (s : Same H H') : Drw H' d l c := D.same s
theorem li_map (gs : List Int) : IsAll H (gs.map V.int) (gs.map W.int) := by
  induction gs with
  | nil => exact .nil
  | cons g gs ih => exact .cons (.int g) ih
theorem Fst.due {P : Program} {w : World} {d l : Addr} {H : Hp} {vs vg : V} (h1 : Fst P w (cut d l H) vs) (h2 : Gst (cut d l H) vg) : ∃ dl, DueR P w d l H vs vg dl := by
  rcases h1 with ⟨⟨u, hu⟩, nf, nk⟩ | ⟨a, ks, rfl, n⟩
  · obtain ⟨⟨ug, hug⟩, tk⟩ := h2
    exact ⟨_, .inl ⟨u, ug, hu, nf, nk, hug, tk, rfl⟩⟩
  · exact ⟨_, .inr ⟨a, ks, rfl, n, h2, rfl⟩⟩
theorem DueR.same {P : Program} {w : World} {d l : Addr} {H H' : Hp} {vs vg : V} {dl : List V} (h : DueR P w d l H vs vg dl) (s : Same (cut d l H) (cut d l H')) : DueR P w d l H' vs vg dl := by
  rcases h with ⟨u, ug, h1, h2, h3, h4, h5, h6⟩ | ⟨a, ks, h1, h2, h3, h4⟩
  · exact .inl ⟨u, ug, h1.same s, h2.same ⟨_, h1⟩ s, h3.same ⟨_, h1⟩ s, h4.same s, h5.same ⟨_, h4⟩ s, h6⟩
  · exact .inr ⟨a, ks, h1, h2.same s, h3.same s, h4⟩
/-- _law_due of such values -/
theorem due_pre {P : Program} {w : World} {d l : Addr} {H : Hp} {vs vg : V} {dl : List V} {Q : VK} {E : XK} (h : DueR P w d l H vs vg dl) (q : ∀ r H', Same H H' → H r = none → H' r = some (.lst dl) → Q (.ref r) H') : spOr spLDue (spLDue2 P w) [vs, vg] H Q E := by
  rcases h with ⟨u, ug, h1, h2, h3, h4, h5, rfl⟩ | ⟨a, ks, rfl, h2, h3, rfl⟩
  · refine .inl ⟨vs, vg, u, ug, rfl, h1.same cut_le, ?_, h4.same cut_le, q⟩
    exact NF.same h2 ⟨_, h1⟩ cut_le
  · exact .inr ⟨a, ks, vg, rfl, h2.same cut_le, q⟩
section
variable {P : Program} {w : World} {K : PySem.W.Frag} {mg : Str → Option Value} {base : Heap} {T : List (Addr × Str)} {C CB CS : Addr} {f c0 : Addr} {A : Around} {outer : List Env} {s : Shared} {H0 : Hp} {E : XK} {d l c : Addr}
theorem st0 (L : LEnv P w K mg base T C CB CS) (hr : Room 8 (XL P w K mg base f c0 A outer s H0 E).A) : Hst (XL P w K mg base f c0 A outer s H0 E) (lawSt 0) (Q0 T d l c) (Q1 T d l c) := by
  have S := scLa
  obtain ⟨fP, fdP, GP, kP, bP, gP⟩ := L.pat
  obtain ⟨fI, fdI, GI, kI, bI, gI⟩ := L.titles
  obtain ⟨fT, fdT, GT, kT, bT, gT⟩ := L.take
  have hr2 := hr.mono (show 2 ≤ 8 by decide)
  have hr3 := hr.mono (show 3 ≤ 8 by decide)
  have hr4 := hr.mono (show 4 ≤ 8 by decide)
  refine Hst.of (ps_set (i := 3) S.nd rfl (.inr rfl) (pe_call GP hr3 (by rfl) gP kP bP .nil pass0 (pa_cons (pv 1) (pa_cons (pe_call GI hr4 (by rfl) gI kI bI .nil pass0 (pa_cons (pv 1) (pa_cons (pe_op op_add pe_int (pe_call GT hr2 (by rfl) gT kT bT .nil pass0 (pa_cons (pv 1) (pa_cons pe_int pa_nil)))) pa_nil))) (pa_cons pe_int pa_nil))))) ?_
  rintro Dn v H ⟨h1, D, hT⟩ q
  refine ⟨_, congrArg some h1, _, congrArg some h1, _, congrArg some h1, d, l, c, 3, rfl, D, by decide, by decide, fun k H1 k0 k1 D1 B1 => ?_⟩
  obtain ⟨j, rfl⟩ : ∃ j : Nat, k = (j : Int) := ⟨k.toNat, by omega⟩
  have em2 : (fun i j => V.int (i + j)) (1 : Int) (j : Int) = V.int ((j + 1 : Nat) : Int) := congrArg V.int (by omega)
  refine ⟨_, _, rfl, rfl, d, l, c, j + 1, by rw [em2]; rfl, D1, by omega, fun p ts H2 hti hlen D2 B2 np hp => ?_⟩
  have offp : p ≠ d ∧ p ≠ l := D1.off np
  refine ⟨d, l, c, p, ts, 4, rfl, D2, hp, offp.2, hti.nd, by omega, by decide, by decide, fun m st g kvs ws gs H3 many m1 m4 D3 B3 nm em nst est sL ng eg rng pw => ?_⟩
  have offm := D2.off nm
  have offs := D2.off nst
  have offg := D2.off ng
  have hnames := sL.names
  have e5 : put v 3 (.ref m) 1 = some (.ref d) := h1
  refine q (put v 3 (.ref m)) H3 ⟨m, st, g, kvs, ws, gs, many, ⟨e5, D3, ?_⟩, rfl, ⟨⟨cut_at em offm.1 offm.2, cut_at est offs.1 offs.2, ?_, cut_at eg offg.1 offg.2⟩, ⟨m1, m4, ?_, ?_, ?_, ?_⟩, ?_, ?_, rng, pw⟩⟩
  · exact tabs_but (tabs_but (tabs_but hT D B1) D1 B2) D2 B3
  · exact (sL.cutH D2).lin
  · intro z
    rw [z] at hnames
    rw [← hnames] at hlen
    exact absurd hlen (by simp)
  · have z := congrArg List.length hnames
    rw [List.length_map] at z
    omega
  · rw [hnames]; exact hti.nd
  · intro t ns hl
    exact sL.row _ (look_of hl)
  · rw [hnames]; exact hti.inT
  · rw [hnames]; exact hti.so
theorem LinL.mem {H : Hp} {kvs : List (Key × V)} {st : List (Str × List Int)} (h : LinL H kvs st) : ∀ p ∈ kvs, ∃ (t : Str) (a : Addr) (ns : List Int), p = (.inr t, .ref a) ∧ (t, ns) ∈ st ∧ H a = some (.lst (ns.map V.int)) := by
  induction h with
  | nil => intro p hp; cases hp
  | cons h r ih =>
    intro p hp
    rcases List.mem_cons.mp hp with z | z
    · rw [z]; exact ⟨_, _, _, rfl, List.mem_cons_self .., h⟩
    · obtain ⟨t, a, ns, e1, e2, e3⟩ := ih p z
      exact ⟨t, a, ns, e1, List.mem_cons_of_mem _ e2, e3⟩
theorem Mo.fst {H : Hp} {m sd g : Addr} {kvs : List (Key × V)} {st : List (Str × List Int)} {gs : List Int} {n : Nat} (M : Mo d l H m sd g kvs st gs n) : Fst P w (cut d l H) (.ref sd) := by
  have nd : (kvs.map (·.1)).Nodup := by
    rw [M.at_.lin.keys]
    exact List.Pairwise.map _ (fun a b h z => h (Sum.inr.inj z)) M.ok.nd
  refine dct_fst M.at_.ss nd (isx_dct M.at_.ss ?_ fun p hp => ?_)
  · rw [M.at_.lin.len]
    have := M.ok.few
    omega
  · obtain ⟨t, a, ns, rfl, hm, e⟩ := M.at_.lin.mem p hp
    have z := ti_all t (M.inT t (List.mem_map.mpr ⟨_, hm, rfl⟩))
    have y := (M.ok.row t ns (look_mem M.ok.nd hm)).1
    have := M.ok.n4
    exact ⟨⟨z.2.1, z.2.2.1⟩, isx_ints e (by omega)⟩
theorem Mo.len {H : Hp} {m sd g : Addr} {kvs : List (Key × V)} {st : List (Str × List Int)} {gs : List Int} {n : Nat} (M : Mo d l H m sd g kvs st gs n) : gs.length ≤ 4 := by
  have z := nodup_below n gs (M.pw.imp fun h => by omega) M.rng
  have := M.ok.n4
  omega
theorem st1 (L : LEnv P w K mg base T C CB CS) (hr : Room 8 (XL P w K mg base f c0 A outer s H0 E).A) : Hst (XL P w K mg base f c0 A outer s H0 E) (lawSt 1) (Q1 T d l c) (Q2 P w T d l c) := by
  have S := scLa
  obtain ⟨fS, fdS, GS, kS, bS, gS⟩ := L.shuf
  have hr3 := hr.mono (show 3 ≤ 8 by decide)
  have hu := hu_of hr
  refine Hst.of (ps_asg (pe_tup (pa_cons (pe_dget hu (pv 3) pe_str (fun _ _ => rfl)) (pa_cons (pe_call GS hr3 (by rfl) gS kS bS .nil pass0 (pa_cons (pv 1) (pa_cons (pe_dget hu (pv 3) pe_str (fun _ _ => rfl)) pa_nil))) pa_nil))) (pg_tup rfl (pgs_cons (pg_name (i := 18) S.nd rfl (.inr rfl)) (pgs_cons (pg_name (i := 17) S.nd rfl (.inr rfl)) pgs_nil)))) ?_
  rintro Dn v H ⟨m, sd, g, kvs, st, gs, n, ⟨h1, D, hT⟩, h3, M⟩ q
  have M1 := M.at_.same cut_le
  obtain ⟨_, offg, eg⟩ := cut_ne M.at_.gg
  have lg := M.len
  refine ⟨_, congrArg some h3, m, _, rfl, M1.steps, _, congrArg some h1, _, congrArg some h3, m, _, rfl, M1.good, d, l, c, g, gs.map V.int, rfl, D, M1.gg, offg, fun x hx => ?_, by rw [List.length_map]; omega, fun p ys H1 perm D1 B1 np hp => ⟨by show 2 ≤ sizeLine; decide, fun Tt nT => ⟨Tt, _, rfl, .inl (.inl upd_same), rfl, _, _, rfl, _, _, rfl, rfl, ?_⟩⟩⟩
  · obtain ⟨i, _, rfl⟩ := List.mem_map.mp hx
    exact ⟨_, .int i⟩
  · have offp := D.off np
    have BN := B1.n.trans (But.new (o := .tup [.ref sd, .ref p]) nT).n
    have D2 := D1.new (o := .tup [.ref sd, .ref p]) nT
    have T2 := (tabs_but hT D B1).ext (same_new (o := .tup [.ref sd, .ref p]) nT)
    have hp2 := same_new (o := .tup [.ref sd, .ref p]) nT _ _ hp
    have M2 := M.n BN
    refine q (put (put v 18 (.ref sd)) 17 (.ref p)) _ ⟨m, sd, g, kvs, st, gs, n, ⟨⟨h1, D2, T2⟩, h3, M2⟩, .ref sd, .ref p, rfl, rfl, M2.fst, ?_⟩
    have e := cut_at hp2 offp.1 offp.2
    refine lst_gst e (isx_lst e (by rw [perm.length_eq, List.length_map]; omega) fun x hx => ?_)
    obtain ⟨i, _, rfl⟩ := List.mem_map.mp (perm.mem_iff.mp hx)
    exact isx_int
/-- what is due is nothing, or one word -/
theorem DueR.cases {H : Hp} {vs vg : V} {dl : List V} (h : DueR P w d l H vs vg dl) : (dl = [] ∧ ∃ u ug, Is (cut d l H) vs u ∧ NF (cut d l H) vs ∧ Nok (cut d l H) vs ∧ Is (cut d l H) vg ug ∧ Tok (cut d l H) vg ∧ movesW u = true ∧ goodW (manyW u) ug = true) ∨ ∃ x : Str, (x = "steps" ∨ x = "good") ∧ dl = [.str x] := by
  rcases h with ⟨u, ug, h1, h2, h3, h4, h5, rfl⟩ | ⟨a, ks, h1, h2, h3, rfl⟩
  · unfold dueL
    by_cases e1 : movesW u = true
    · rw [if_pos e1]
      by_cases e2 : goodW (manyW u) ug = true
      · rw [if_pos e2]
        exact .inl ⟨rfl, u, ug, h1, h2, h3, h4, h5, e1, e2⟩
      · rw [if_neg e2]
        exact .inr ⟨_, .inr rfl, rfl⟩
    · rw [if_neg e1]
      exact .inr ⟨_, .inl rfl, rfl⟩
  · exact .inr ⟨_, .inl rfl, rfl⟩
/-- list == [] -/
theorem eq_nil {K : PySem.W.Frag} {H : Hp} {a b : Addr} {dl : List V} (hd : dl = [] ∨ ∃ x : Str, (x = "steps" ∨ x = "good") ∧ dl = [.str x]) (ha : H a = some (.lst dl)) (hb : H b = some (.lst [])) {R : VK} (q : R (.bl dl.isEmpty) H) :
    rEqD K (.ref a) (.ref b) H R := by
  rcases hd with rfl | ⟨x, hx, rfl⟩
  · exact ⟨.list [], .list [], .lst (SqL.of ha) .nil, .lst (SqL.of hb) .nil, by decide, by decide, q⟩
  · refine ⟨.list [.str x], .list [], .lst (SqL.of ha) (.cons (.str _) .nil), .lst (SqL.of hb) .nil, ?_, by decide, ?_⟩
    · rcases hx with rfl | rfl <;> decide +kernel
    · have z : PyData.eqv (.list [.str x]) (.list []) = false := by rcases hx with rfl | rfl <;> decide +kernel
      rw [z]
      exact q
theorem st2 (L : LEnv P w K mg base T C CB CS) (hr : Room 8 (XL P w K mg base f c0 A outer s H0 E).A) : Hst (XL P w K mg base f c0 A outer s H0 E) (lawSt 2) (Q2 P w T d l c) (Q2 P w T d l c) := by
  have S := scLa
  obtain ⟨fT, fdT, GT, kT, bT, gT⟩ := L.take
  obtain ⟨fD, fdD, GD, kD, bD, gD⟩ := L.due
  obtain ⟨fS, fdS, GS, kS, bS, gS⟩ := L.spo
  have hr2 := hr.mono (show 2 ≤ 8 by decide)
  have hr4 := hr.mono (show 4 ≤ 8 by decide)
  have hu := hu_of hr
  refine Hst.of (ps_for PassesOwn.never rfl (pi_range1 (by rfl) (L.fr "range" (by decide)) (pa_cons (pe_call GT hr2 (by rfl) gT kT bT .nil pass0 (pa_cons (pv 1) (pa_cons pe_int pa_nil))) pa_nil)) (pg_name (i := 4) S.nd rfl (.inl rfl))
    (pss_one (ps_if (pt_cmpR (op_eqD hr.units) (pe_call GD hr2 (by rfl) gD kD bD .nil pass0 (pa_cons (pv 18) (pa_cons (pv 17) pa_nil))) (pe_lst pa_nil) (nomark _))
      (pss_one (ps_asg (pe_call GS hr4 (by rfl) gS kS bS .nil pass0 (pa_cons (pv 1) (pa_cons (pv 18) (pa_cons (pv 17) pa_nil)))) (pg_tup rfl (pgs_cons (pg_name (i := 18) S.nd rfl (.inr rfl)) (pgs_cons (pg_name (i := 17) S.nd rfl (.inr rfl)) pgs_nil))))) pss_nil))) ?_
  rintro Dn v H ⟨m, sd, g, kvs, st, gs, n, ⟨⟨h1, D, hT⟩, h3, M⟩, vs, vg, hs, hg, fs, gg⟩ q
  refine ⟨_, congrArg some h1, d, l, c, 3, rfl, D, by decide, by decide, fun k H1 k0 k1 D1 B1 => ?_⟩
  refine ⟨k, rfl, by omega, by omega, for_range (fun i σ H2 => ∃ v, σ = SL v ∧ Q2 P w T d l c v H2)
    ⟨v, rfl, m, sd, g, kvs, st, gs, n, ⟨⟨h1, D1, tabs_but hT D B1⟩, h3, M.n B1.n⟩, vs, vg, hs, hg, fs.same B1.cut, gg.same B1.cut⟩ ?_ ?_⟩
  · rintro i σ H2 hi ⟨v, rfl, m, sd, g, kvs, st, gs, n, ⟨⟨h1, D2, hT⟩, h3, M⟩, vs, vg, hs, hg, fs, gg⟩
    obtain ⟨dl, R⟩ := Fst.due fs gg
    refine ⟨_, congrArg some hs, _, congrArg some hg, due_pre R fun r H3 s3 nr er => ?_⟩
    refine ⟨Nat.zero_le _, fun e0 ne0 => ?_⟩
    have s4 : Same H2 (upd H3 e0 (.lst [])) := s3.trans (same_new ne0)
    show rEqD K _ _ _ _
    refine eq_nil (R.cases.imp (·.1) id) (same_new ne0 _ _ er) upd_same ?_
    refine ⟨_, rfl, ?_⟩
    have D4 := D2.same s4
    have T4 := hT.ext s4
    have B4 : But d l H2 (upd H3 e0 (.lst [])) := But.of s4
    have M4 := M.n B4.n
    generalize upd H3 e0 (.lst []) = H4 at s4 D4 T4 B4 M4 ⊢
    rcases R.cases with ⟨rfl, u, ug, i1, i2, i3, i4, i5, i6, i7⟩ | ⟨x, hx, rfl⟩
    · refine iteT ⟨_, congrArg some h1, _, congrArg some hs, _, congrArg some hg, d, l, c, vs, vg, u, ug, rfl, D4, i1.same B4.cut, i2.same ⟨_, i1⟩ B4.cut, i3.same ⟨_, i1⟩ B4.cut, i6, i4.same B4.cut, i5.same ⟨_, i4⟩ B4.cut, i7, fun Tt s' g' H5 D5 B5 nT eT fs' gg' => ⟨Tt, _, rfl, .inl (.inl eT), rfl, _, _, rfl, _, _, rfl, rfl, ?_⟩⟩
      exact ⟨put (put (put v 4 (.int (0 + (i : Int)))) 18 s') 17 g', rfl, m, sd, g, kvs, st, gs, n, ⟨⟨h1, D5, tabs_but T4 D4 B5⟩, h3, M4.n B5.n⟩, s', g', rfl, rfl, fs', gg'⟩
    · refine iteF ?_
      exact ⟨put v 4 (.int (0 + (i : Int))), rfl, m, sd, g, kvs, st, gs, n, ⟨⟨h1, D4, T4⟩, h3, M4⟩, vs, vg, hs, hg, fs.same B4.cut, gg.same B4.cut⟩
  · rintro σ H2 ⟨v, rfl, z⟩
    exact q v H2 z
theorem st3 (L : LEnv P w K mg base T C CB CS) (hr : Room 8 (XL P w K mg base f c0 A outer s H0 E).A) : Hst (XL P w K mg base f c0 A outer s H0 E) (lawSt 3) (Q2 P w T d l c) (Q4 P w T d l c) := by
  have S := scLa
  obtain ⟨fD, fdD, GD, kD, bD, gD⟩ := L.due
  have hr2 := hr.mono (show 2 ≤ 8 by decide)
  refine Hst.of (ps_asg (pe_tup (pa_cons (pe_call GD hr2 (by rfl) gD kD bD .nil pass0 (pa_cons (pv 18) (pa_cons (pv 17) pa_nil))) (pa_cons (pe_lst pa_nil) pa_nil))) (pg_tup rfl (pgs_cons (pg_name (i := 5) S.nd rfl (.inl rfl)) (pgs_cons (pg_name (i := 16) S.nd rfl (.inr rfl)) pgs_nil)))) ?_
  rintro Dn v H ⟨m, sd, g, kvs, st, gs, n, ⟨⟨h1, D, hT⟩, h3, M⟩, vs, vg, hs, hg, fs, gg⟩ q
  obtain ⟨dl, R⟩ := Fst.due fs gg
  refine ⟨_, congrArg some hs, _, congrArg some hg, due_pre R fun r H3 s3 nr er => ?_⟩
  refine ⟨Nat.zero_le _, fun e0 ne0 => ⟨by show 2 ≤ sizeLine; decide, fun Tt nT => ⟨Tt, _, rfl, .inl (.inl upd_same), rfl, _, _, rfl, _, _, rfl, rfl, ?_⟩⟩⟩
  have s4 : Same H (upd (upd H3 e0 (.lst [])) Tt (.tup [.ref r, .ref e0])) := (s3.trans (same_new ne0)).trans (same_new nT)
  have B4 : But d l H (upd (upd H3 e0 (.lst [])) Tt (.tup [.ref r, .ref e0])) := But.of s4
  have e1 := same_new (o := .tup [.ref r, .ref e0]) nT _ _ (same_new (o := .lst []) ne0 _ _ er)
  have e2 : (upd (upd H3 e0 (.lst [])) Tt (.tup [.ref r, .ref e0])) e0 = some (.lst []) := same_new nT _ _ upd_same
  have ne0H := s3.free ne0
  refine q (put (put v 5 (.ref r)) 16 (.ref e0)) _ ⟨m, sd, g, kvs, st, gs, n, H, ⟨⟨h1, D.same s4, hT.ext s4⟩, h3, M.n B4.n⟩, M, B4.n, D, vs, vg, r, e0, dl, hs, hg, rfl, rfl, ne0H, ne_of_none er ne0, cut_at e1 (D.off nr).1 (D.off nr).2, cut_at e2 (D.off ne0H).1 (D.off ne0H).2, R.same B4.cut⟩
end
end Kn
-- part Lb
set_option maxHeartbeats 8000000
namespace Kn
open PySem PySem.Spec PyProof.Rows L2 Err LamX
section
variable {P : Program} {w : World} {C CB : Addr}
theorem make_right {H : Hp} {vs vg : V} {u ug : W} {x dx : Addr} {E : XK} (hx : H x = none) (hdx : H dx = none) (ne : dx ≠ x) (h1 : Is H vs u) (h2 : NF H vs) (h3 : Nok H vs) (h4 : Is H vg ug) (h5 : Tok H vg) {Q2 : VK}
    (qS : movesW u = false → ∀ d H2, Same H H2 → H2 d = none → E (.ref CB) (some d) (upd H2 d (.xd [("part", .str "steps")])))
    (qG : movesW u = true → goodW (manyW u) ug = false → ∀ d H2, Same H H2 → H2 d = none → E (.ref CB) (some d) (upd H2 d (.xd [("part", .str "good")])))
    (qR : movesW u = true → goodW (manyW u) ug = true → ∀ st gs H2, Same H H2 → PatAt C H2 x (manyW u) st gs → PatOk (manyW u) st → (∀ t, st.lookup t = (linesW u).lookup t) → (st.map (·.1)).Perm ((linesW u).map (·.1)) → sortedS (st.map (·.1)) = true → gs.Perm (intsW ug) → gs.Pairwise (· ≤ ·) → Q2 .non H2) :
    spOr (spInit C CB) (spInit2 P w C CB) [.ref x, vs, vg] (upd (upd H dx (.own x)) x (.ins C dx [])) Q2 E := by
  have s1 : Same H (upd H dx (.own x)) := same_new hdx
  have n1 : (upd H dx (.own x)) x = none := by rw [upd_ne ne.symm]; exact hx
  have s2 : Same H (upd (upd H dx (.own x)) x (.ins C dx [])) := s1.trans (same_new n1)
  have hb : ∀ H', Bp x (upd (upd H dx (.own x)) x (.ins C dx [])) H' → Same H H' := fun H' B b o e => B b o (s2 _ _ e) (ne_of_none e hx)
  exact .inl ⟨x, dx, vs, vg, u, ug, rfl, upd_same, h1.same s2, h2.same ⟨_, h1⟩ s2, h4.same s2, h5.same ⟨_, h4⟩ s2, h3.same ⟨_, h1⟩ s2,
    fun e d H' B nd => qS e d H' (hb H' B) nd, fun e1 e2 d H' B nd => qG e1 e2 d H' (hb H' B) nd, fun e1 e2 st gs H' B a1 a2 a3 a4 a5 a6 a7 => qR e1 e2 st gs H' (hb H' B) a1 a2 a3 a4 a5 a6 a7⟩
theorem make_none {H : Hp} {a : Addr} {ks : List (Option Key)} {vg : V} {x dx : Addr} {E : XK} (hx : H x = none) (hdx : H dx = none) (ne : dx ≠ x) (h1 : NdOk P w H a ks) {Q2 : VK}
    (qS : ∀ d H2, Same H H2 → H2 d = none → E (.ref CB) (some d) (upd H2 d (.xd [("part", .str "steps")]))) :
    spOr (spInit C CB) (spInit2 P w C CB) [.ref x, .ref a, vg] (upd (upd H dx (.own x)) x (.ins C dx [])) Q2 E := by
  have s1 : Same H (upd H dx (.own x)) := same_new hdx
  have n1 : (upd H dx (.own x)) x = none := by rw [upd_ne ne.symm]; exact hx
  have s2 : Same H (upd (upd H dx (.own x)) x (.ins C dx [])) := s1.trans (same_new n1)
  exact .inr ⟨x, dx, a, ks, vg, rfl, upd_same, h1.same s2, fun d H' B nd => qS d H' (fun b o e => B b o (s2 _ _ e) (ne_of_none e hx)) nd⟩
/-- made of what _law_due has judged -/
theorem make_due {d l : Addr} {H : Hp} {vs vg : V} {dl : List V} (h : DueR P w d l H vs vg dl) {x dx : Addr} {E : XK} (hx : H x = none) (hdx : H dx = none) (ne : dx ≠ x) {Q2 : VK}
    (qE : ∀ y : Str, (y = "steps" ∨ y = "good") → dl = [.str y] → ∀ d2 H2, Same H H2 → H2 d2 = none → E (.ref CB) (some d2) (upd H2 d2 (.xd [("part", .str y)])))
    (qR : dl = [] → ∀ H2, Same H H2 → Q2 .non H2) : spOr (spInit C CB) (spInit2 P w C CB) [.ref x, vs, vg] (upd (upd H dx (.own x)) x (.ins C dx [])) Q2 E := by
  rcases h with ⟨u, ug, h1, h2, h3, h4, h5, h6⟩ | ⟨a, ks, rfl, h2, h3, h4⟩
  · unfold dueL at h6
    refine make_right hx hdx ne (h1.same cut_le) (h2.same ⟨_, h1⟩ cut_le) (h3.same ⟨_, h1⟩ cut_le) (h4.same cut_le) (h5.same ⟨_, h4⟩ cut_le) (fun e => ?_) (fun e1 e2 => ?_) (fun e1 e2 st gs H2 s2 _ _ _ _ _ _ _ => ?_)
    · rw [if_neg (by rw [e]; decide)] at h6
      exact qE _ (.inl rfl) h6
    · rw [if_pos e1, if_neg (by rw [e2]; decide)] at h6
      exact qE _ (.inr rfl) h6
    · rw [if_pos e1, if_pos e2] at h6
      exact qR h6 H2 s2
  · exact make_none hx hdx ne (h2.same cut_le) (qE _ (.inl rfl) h4)
theorem DueR.ext {d l : Addr} {H H' : Hp} {vs vg : V} {dl : List V} (h : DueR P w d l H vs vg dl) (B : ButN d l H H') : DueR P w d l H' vs vg dl := h.same B.cut
variable {K : PySem.W.Frag} {mg : Str → Option Value} {base : Heap} {T : List (Addr × Str)} {CS : Addr} {f c0 Pt : Addr} {A : Around} {outer : List Env} {s : Shared} {H0 : Hp} {E : XK} {d l c : Addr}
def Q5 (CB : Addr) (T : List (Addr × Str)) (d l c : Addr) (v : Nat → Option V) (H : Hp) : Prop := ∃ m sd g kvs st gs n, QM T d l c v H m sd g kvs st gs n ∧ ∃ due dl, v 5 = some (.ref due) ∧ cut d l H due = some (.lst dl) ∧
  ((dl = [] ∧ v 6 = some .non) ∨ ∃ (x : Str) (a : Addr), (x = "steps" ∨ x = "good") ∧ dl = [.str x] ∧ v 6 = some (.ref a) ∧ QAt H a CB [("part", .str x)])
theorem st4 (L : LEnv P w K mg base T C CB CS) (hr : Room 8 (XL P w K mg base f c0 A outer s H0 E).A) (TB : TabB base mg c0 Pt) (hT1 : (Pt, ("law.<locals>." : Str) ++ "<lambda>") ∈ T) (hT2 : ∀ p ∈ T, p.1 = Pt → p.2 = ("law.<locals>." : Str) ++ "<lambda>") :
    Hst (XL P w K mg base f c0 A outer s H0 E) (lawSt 4) (Q4 P w T d l c) (Q5 CB T d l c) := by
  have S := scLa
  obtain ⟨fC, fdC, FC, bC, gC⟩ := L.caught
  obtain ⟨fI, fdI, GI, MK, bI, bIk⟩ := L.make
  have FC0 := FC
  obtain ⟨ocC, odC, kVC, docC, pmC, anC, cdC, ctC, oslC, rfl, lkC, hcC⟩ := FC.ex
  have app : ∀ (X : Cx) {o e : Expr} {to te : TE} {apos cpos : Pos}, X.K = K → PE X o to → PE X e te → attributeBase o "append" X.env (eval o X.env) = eval o X.env →
      ((backTo cpos (starEach [e] X.env)).all (fun x => !x.1) && (backToKw cpos (keywordEach [] X.env)).all (fun x => x.1.isSome) && decide (([e] : List Expr).length + ([] : List Keyword).length + (if ([] : List Keyword).isEmpty then 0 else 1) < 30)) = true →
      (apos.endLine == cpos.line) = true → starEach [e] X.env = (false, eval e X.env) :: starEach [] X.env → (backTo cpos (starEach [] X.env)).any (·.1) = false →
      PE X (.Call (.Attribute o "append" apos) [e] [] cpos) (tBM K "list" rAppend to (tCons te tNil)) := by
    intro X o e to te apos cpos hK ho he h1 h2 h3 h4 h5
    subst hK
    exact pe_bm PySem.F.plainAttrs_list PySem.F.slot_list_append PySem.F.type_list_append mt_append ho (pa_cons he pa_nil h4) h1 h2 h3 h4 h5
  refine Hst.of (ps_set (i := 6) S.nd rfl (.inl rfl) (pe_lamcall (T := T) (TT := TCaught K CS) (k := 6) (by rfl) gC FC.kp lkC hcC bC scCa rfl (.inl rfl) (caught_gives L.gS) TB rfl hT1 hT2 hr (lamS_by (by show lamSB (defScope sLaw) _ = true; decide +kernel)) (by rfl) (fun _ _ _ _ _ => rfl)
    (fun A outer s H E f c' hrL => app _ rfl (pv 16) (pe_make MK GI hrL (by rfl) L.gC bI .nil (passes_call (takes_of rfl rfl rfl rfl) fun _ _ _ _ h => h) (pa_cons (pv 18) (pa_cons (pv 17) pa_nil))) rfl rfl rfl rfl rfl))) ?_
  rintro Dn v H ⟨m, sd, g, kvs, st, gs, n, Hb, ⟨⟨h1, D, hT⟩, h3, M⟩, Mb, Bb, Db, vs, vg, due, found, dl, hs, hg, h5, h16, nf, df, edue, efound, R⟩ q
  obtain ⟨fd1, fd2, efo⟩ := cut_ne efound
  refine ⟨hT, fun H1 eN T1 => ?_⟩
  have B1 : ButN d l H H1 := .ext eN
  have D1 := D.extN eN
  have ef1 := eN _ _ efo (fun _ z => by cases z)
  refine ⟨_, congrArg some h16, .inl ⟨rfl, _, SqL.of ef1⟩, _, congrArg some hs, _, congrArg some hg, fun x dx hx hdx ne => make_due (R.ext B1) hx hdx ne (fun y hy edl d2 H2 s2 nd2 => ⟨L.ex, fun a na => ?_⟩) (fun edl H2 s2 => ⟨rfl, found, [], .ref x, rfl, rfl, s2 _ _ ef1, by show 0 < sizeLine; decide, .non, rfl, ?_⟩)⟩
  · have s3 : Same H1 (upd (upd H2 d2 (.xd [("part", .str y)])) a (exq a (.ref CB) (some d2))) := (s2.trans (same_new nd2)).trans (same_new na)
    have qa : QAt (upd (upd H2 d2 (.xd [("part", .str y)])) a (exq a (.ref CB) (some d2))) a CB [("part", .str y)] := ⟨d2, upd_same, same_new na _ _ upd_same⟩
    have B3 := B1.trans (But.of s3).n
    exact q (put v 6 (.ref a)) _ ⟨m, sd, g, kvs, st, gs, n, ⟨⟨h1, D1.same s3, T1.ext s3⟩, h3, M.n B3⟩, due, dl, h5, B3.cut _ _ edue, .inr ⟨y, a, hy, edl, rfl, qa⟩⟩
  · have B2 := B1.trans (But.of s2).n
    have B3 : ButN d l Hb (upd H2 found (.lst ([] ++ [.ref x]))) := fun b o e z1 z2 z3 => by
      rw [upd_ne (ne_of_none e nf)]
      exact (Bb.trans B2) b o e z1 z2 z3
    have edue2 := B2.cut _ _ edue
    obtain ⟨u1, u2, u3⟩ := cut_ne edue2
    refine q (put v 6 .non) _ ⟨m, sd, g, kvs, st, gs, n, ⟨⟨h1, (D1.same s2).own Db nf, ?_⟩, h3, Mb.n B3⟩, due, dl, h5, cut_at (by rw [upd_ne df]; exact u3) u1 u2, .inl ⟨edl, rfl⟩⟩
    exact tabs_keep (T1.ext s2) fun b o e n1 _ => by
      rw [upd_ne (fun z => by rw [z, s2 _ _ ef1] at e; exact n1 _ (Option.some.inj e).symm)]
      exact e
theorem st5 (L : LEnv P w K mg base T C CB CS) (hr : Room 8 (XL P w K mg base f c0 A outer s H0 E).A) : Hst (XL P w K mg base f c0 A outer s H0 E) (lawSt 5) (Q5 CB T d l c) (Q5 CB T d l c) := by
  refine Hst.of (ps_if (pt_cmpR op_ne (pe_cmpR op_isN (pv 6) pe_non (nomark _)) (pe_cmpR (op_eqD hr.units) (pv 5) (pe_lst pa_nil) (nomark _)) (nomark _)) (pss_one (ps_ret pe_bl)) pss_nil) ?_
  rintro Dn v H ⟨m, sd, g, kvs, st, gs, n, ⟨⟨h1, D, hT⟩, h3, M⟩, due, dl, h5, edue, hc⟩ q
  have hdl : dl = [] ∨ ∃ x : Str, (x = "steps" ∨ x = "good") ∧ dl = [.str x] := by
    rcases hc with ⟨e, _⟩ | ⟨x, a, hx, e, _⟩
    · exact .inl e
    · exact .inr ⟨x, hx, e⟩
  obtain ⟨x6, h6, hx6⟩ : ∃ x6, v 6 = some x6 ∧ decide (x6 = .non) = dl.isEmpty := by
    rcases hc with ⟨e, h⟩ | ⟨x, a, hx, e, h, _⟩
    · exact ⟨_, h, by rw [e]; rfl⟩
    · exact ⟨_, h, by rw [e]; rfl⟩
  refine ⟨_, congrArg some h6, rfl, _, congrArg some h5, Nat.zero_le _, fun e0 ne0 => ?_⟩
  show rEqD K _ _ _ _
  have s1 : Same H (upd H e0 (.lst [])) := same_new ne0
  refine eq_nil hdl (s1 _ _ (cut_le _ _ edue)) upd_same ?_
  have B1 := (But.of (d := d) (l := l) s1).n
  refine ⟨rfl, _, rfl, ?_⟩
  rw [hx6]
  have z : (!decide (V.bl dl.isEmpty = V.bl dl.isEmpty)) = false := by rw [decide_eq_true rfl]; rfl
  rw [z]
  refine iteF ?_
  refine q v _ ⟨m, sd, g, kvs, st, gs, n, ⟨⟨h1, D.same s1, hT.ext s1⟩, h3, M.n B1⟩, due, dl, h5, B1.cut _ _ edue, ?_⟩
  rcases hc with ⟨e, h⟩ | ⟨x, a, hx, e, h, qa⟩
  · exact .inl ⟨e, h⟩
  · exact .inr ⟨x, a, hx, e, h, qa.same s1⟩
end
end Kn
-- part Lb1
set_option maxHeartbeats 8000000
namespace Kn
open PySem PySem.Spec PyProof.Rows L2 Err LamX
theorem vals_app : ∀ {a b : List V} {c d : List Value}, Vals a c → Vals b d → Vals (a ++ b) (c ++ d)
  | _, _, _, _, .nil, h => h
  | _, _, _, _, .cons x t, h => .cons x (vals_app t h)
theorem vals_rev : ∀ {a : List V} {c : List Value}, Vals a c → Vals a.reverse c.reverse
  | _, _, .nil => .nil
  | _, _, .cons x t => by
    rw [List.reverse_cons, List.reverse_cons]
    exact vals_app (vals_rev t) (.cons x .nil)
/-! ### the word of a model -/
theorem is_ints {H : Hp} : ∀ gs : List Int, IsAll H (gs.map V.int) (gs.map W.int)
  | [] => .nil
  | g :: gs => .cons (.int g) (is_ints gs)
theorem toI_ints : ∀ gs : List Int, (gs.map W.int).filterMap toI = gs
  | [] => rfl
  | g :: gs => by
    rw [List.map_cons, List.filterMap_cons]
    show g :: _ = _
    rw [toI_ints gs]
theorem intsW_lst (gs : List Int) : intsW (.lst (gs.map W.int)) = gs := toI_ints gs
theorem all_within {n : Nat} {gs : List Int} (h : ∀ k ∈ gs, 0 ≤ k ∧ k < (n : Int)) : (gs.map W.int).all (withinW 0 ((n : Int) - 1)) = true := by
  rw [List.all_eq_true]
  intro x hx
  obtain ⟨k, hk, rfl⟩ := List.mem_map.mp hx
  have z := h k hk
  show (decide (0 ≤ k) && decide (k ≤ (n : Int) - 1)) = true
  rw [decide_eq_true z.1, decide_eq_true (by omega)]
  rfl
theorem seq_lst (ws : List W) : isSeq (.lst ws) = true := by kernel_rfl
theorem states_lst {n : Nat} {gs : List Int} (h : ∀ k ∈ gs, 0 ≤ k ∧ k < (n : Int)) : statesW (n : Int) (.lst (gs.map W.int)) = true := by
  unfold statesW
  rw [seq_lst, Bool.true_and]
  exact all_within h
theorem good_lst {n : Nat} {gs : List Int} (h : ∀ k ∈ gs, 0 ≤ k ∧ k < (n : Int)) (nd : gs.Nodup) : goodW (n : Int) (.lst (gs.map W.int)) = true := by
  unfold goodW
  rw [states_lst h, Bool.true_and, intsW_lst]
  exact (count_nodup _).mpr nd
abbrev modK (st : List (Str × List Int)) : List (Option Key × W) := st.map fun p => (some (.inr p.1), .lst (p.2.map W.int))
theorem modW_kws (st : List (Str × List Int)) : ∀ p ∈ modK st, ∃ q ∈ st, p = (some (.inr q.1), .lst (q.2.map W.int)) := fun p hp => by
  obtain ⟨q, hq, rfl⟩ := List.mem_map.mp hp
  exact ⟨q, hq, rfl⟩
theorem modW_ok {n : Nat} {st : List (Str × List Int)} (ok : PatOk n st) (inT : ∀ t ∈ st.map (·.1), t ∈ TI) : movesW (modW st) = true ∧ manyW (modW st) = n ∧ linesW (modW st) = st := by
  have n1 := ok.n1
  have n4 := ok.n4
  have few := ok.few
  have hne : st ≠ [] := ok.ne
  have row : ∀ q ∈ st, q.2.length = n ∧ ∀ k ∈ q.2, 0 ≤ k ∧ k < (n : Int) := fun q hq => ok.row q.1 q.2 (look_mem ok.nd hq)
  have h0 : isDctN 1 3 (modW st) = true := by
    show (decide ((1 : Int) ≤ ((modK st).length : Int)) && (decide (((modK st).length : Int) ≤ 3) && (modK st).all fun p => isNameK p.1)) = true
    have l1 : 0 < st.length := List.length_pos_iff.mpr hne
    rw [List.length_map, decide_eq_true (by omega), decide_eq_true (by omega), Bool.true_and, Bool.true_and, List.all_eq_true]
    intro p hp
    obtain ⟨q, hq, rfl⟩ := modW_kws st p hp
    exact (ti_all q.1 (inT _ (List.mem_map.mpr ⟨q, hq, rfl⟩))).1
  have len : ∀ p ∈ modK st, lenW p.2 = (n : Int) ∧ (items p.2).all (withinW 0 ((n : Int) - 1)) = true := fun p hp => by
    obtain ⟨q, hq, rfl⟩ := modW_kws st p hp
    obtain ⟨r1, r2⟩ := row q hq
    refine ⟨?_, all_within r2⟩
    show (((q.2.map W.int).length : Nat) : Int) = n
    rw [List.length_map, r1]
  obtain ⟨e1, e2⟩ := moves_of (kws := modK st) h0 (fun z => hne (List.map_eq_nil_iff.mp z)) (fun p hp => by
    obtain ⟨l1, _⟩ := len p hp
    obtain ⟨q, hq, rfl⟩ := modW_kws st p hp
    unfold lineOk
    rw [l1, seq_lst, decide_eq_true (by omega), decide_eq_true (by omega)]
    rfl) len
  refine ⟨e1, ?_, ?_⟩
  · show (mostW _).toNat = n
    rw [e2]
    omega
  · show linesOf (modK st) = st
    clear e1 e2 len h0 row hne n1 n4 few inT ok
    induction st with
    | nil => rfl
    | cons p st ih =>
      show (p.1, intsW (.lst (p.2.map W.int))) :: linesOf (modK st) = p :: st
      rw [ih, intsW_lst]
section
variable {d l c : Addr}
theorem Mo.is {H : Hp} {m sd g : Addr} {kvs : List (Key × V)} {st : List (Str × List Int)} {gs : List Int} {n : Nat} (M : Mo d l H m sd g kvs st gs n) : Is (cut d l H) (.ref sd) (modW st) := by
  have few := M.ok.few
  have n4 := M.ok.n4
  have all : ∀ {kvs : List (Key × V)} {st : List (Str × List Int)}, LinL (cut d l H) kvs st → (∀ t ∈ st.map (·.1), t ∈ TI) → (∀ q ∈ st, q.2.length ≤ 900) → IsKV (cut d l H) (kvs.map fun p => (some p.1, p.2)) (modK st) := by
    intro kvs st h
    induction h with
    | nil => intro _ _; exact .nil
    | cons h r ih =>
      intro h1 h2
      have z := ti_all _ (h1 _ (List.mem_cons_self ..))
      exact .cons ⟨z.2.1, z.2.2.1⟩ (.lst (by rw [List.length_map]; exact h2 _ (List.mem_cons_self ..)) h (is_ints _)) (ih (fun t ht => h1 t (List.mem_cons_of_mem _ ht)) fun q hq => h2 q (List.mem_cons_of_mem _ hq))
  refine .dct ?_ ⟨kvs, .inl M.at_.ss, rfl⟩ (all M.at_.lin M.inT fun q hq => ?_)
  · rw [List.length_map, M.at_.lin.len]
    omega
  · have := (M.ok.row q.1 q.2 (look_mem M.ok.nd hq)).1
    omega
theorem Mo.nf {H : Hp} {m sd g : Addr} {kvs : List (Key × V)} {st : List (Str × List Int)} {gs : List Int} {n : Nat} (M : Mo d l H m sd g kvs st gs n) : NF (cut d l H) (.ref sd) := fun a o u e z => by
  cases e
  rw [M.at_.ss] at z
  cases z
theorem Mo.nk {H : Hp} {m sd g : Addr} {kvs : List (Key × V)} {st : List (Str × List Int)} {gs : List Int} {n : Nat} (M : Mo d l H m sd g kvs st gs n) : Nok (cut d l H) (.ref sd) := fun a ks e z => by
  cases e
  rw [M.at_.ss] at z
  cases z
  rw [M.at_.lin.keys]
  exact List.Pairwise.map _ (fun a b h z => h (Sum.inr.inj z)) M.ok.nd
theorem Mo.isg {H : Hp} {m sd g : Addr} {kvs : List (Key × V)} {st : List (Str × List Int)} {gs : List Int} {n : Nat} (M : Mo d l H m sd g kvs st gs n) : Is (cut d l H) (.ref g) (.lst (gs.map W.int)) :=
  .lst (by rw [List.length_map]; have := M.len; omega) M.at_.gg (is_ints gs)
theorem tok_lst {H : Hp} {a : Addr} {xs : List V} (e : H a = some (.lst xs)) : Tok H (.ref a) := fun b ys z q => by
  cases z
  rcases q with q | ⟨o, q⟩
  · rw [e] at q; cases q
  · rw [e] at q; cases q
theorem pat_cut {C : Addr} {H : Hp} {p : Addr} {n : Nat} {st : List (Str × List Int)} {gs : List Int} (D : Drw H d l c) (h : PatAt C H p n st gs) (few : st.length ≤ 3) : PatAt C (cut d l H) p n st gs := by
  obtain ⟨dx, ds, tg, kvs, h1, h2, h3, h4⟩ := h.ex
  obtain ⟨⟨r, tt, hd⟩, ⟨ns, hl⟩, _, _⟩ := D
  have ne : ∀ {a : Addr} {o : HO}, H a = some o → (∀ kvs, o = .dK kvs → kvs.length ≤ 3) → (∀ xs, o ≠ .lst xs) → a ≠ d ∧ a ≠ l := fun {a o} e h1 h2 => by
    refine ⟨fun z => ?_, fun z => ?_⟩
    · rw [z, hd] at e
      have w := h1 _ (Option.some.inj e).symm
      exact absurd (show 4 ≤ 3 from w) (by decide)
    · rw [z, hl] at e
      exact h2 _ (Option.some.inj e).symm
  have tup : ∀ {a : Addr} {xs : List V}, Rd H a (.tup xs) → Rd (cut d l H) a (.tup xs) := fun {a xs} e => by
    rcases e with e | ⟨o, e⟩
    · obtain ⟨n1, n2⟩ := ne e (fun _ z => by cases z) (fun _ z => by cases z)
      exact .inl (cut_at e n1 n2)
    · obtain ⟨n1, n2⟩ := ne e (fun _ z => by cases z) (fun _ z => by cases z)
      exact .inr ⟨o, cut_at e n1 n2⟩
  have lin : ∀ {kvs : List (Key × V)} {st : List (Str × List Int)}, LinT H kvs st → LinT (cut d l H) kvs st := by
    intro kvs st h
    induction h with
    | nil => exact .nil
    | cons h r ih => exact .cons (tup h) ih
  obtain ⟨n1, n2⟩ := ne h1 (fun _ z => by cases z) (fun _ z => by cases z)
  obtain ⟨n3, n4⟩ := ne h2 (fun ks z => by cases z; rw [h3.len]; exact few) (fun _ z => by cases z)
  exact ⟨dx, ds, tg, kvs, cut_at h1 n1 n2, cut_at h2 n3 n4, lin h3, tup h4⟩
variable {P : Program} {w : World} {C CB : Addr} {K : PySem.W.Frag} {mg : Str → Option Value} {base : Heap} {T : List (Addr × Str)} {CS : Addr} {f c0 Pt : Addr} {A : Around} {outer : List Env} {s : Shared} {H0 : Hp} {E : XK}
/-- a pattern made of the model's steps and of some good states -/
theorem make_mo {H H' : Hp} {m sd g a : Addr} {kvs : List (Key × V)} {st : List (Str × List Int)} {gs hs : List Int} {n : Nat} (M : Mo d l H m sd g kvs st gs n) (D : Drw H' d l c) (B : ButN d l H H') (ea : H' a = some (.lst (hs.map V.int))) (rng : ∀ k ∈ hs, 0 ≤ k ∧ k < (n : Int)) (nd : hs.Nodup)
    {x dx : Addr} {E : XK} (hx : H' x = none) (hdx : H' dx = none) (ne : dx ≠ x) {Q2 : VK}
    (q : ∀ hs' H2, Same H' H2 → hs'.Perm hs → hs'.Pairwise (· ≤ ·) → PatAt C (cut d l H2) x n st hs' → Q2 .non H2) : spOr (spInit C CB) (spInit2 P w C CB) [.ref x, .ref sd, .ref a] (upd (upd H' dx (.own x)) x (.ins C dx [])) Q2 E := by
  obtain ⟨w1, w2, w3⟩ := modW_ok M.ok M.inT
  have M' := M.n B
  have lh := nodup_below n hs nd rng
  have n4 := M.ok.n4
  have gd : goodW ((manyW (modW st) : Nat) : Int) (.lst (hs.map W.int)) = true := by rw [w2]; exact good_lst rng nd
  refine make_right (u := modW st) (ug := .lst (hs.map W.int)) hx hdx ne (M'.is.same cut_le) (M'.nf.same ⟨_, M'.is⟩ cut_le) (M'.nk.same ⟨_, M'.is⟩ cut_le) (.lst (by rw [List.length_map]; omega) ea (is_ints hs)) (tok_lst ea)
    (fun e => by rw [w1] at e; cases e) (fun _ e => by rw [gd] at e; cases e) (fun _ _ st' hs' H2 s2 hp ok' lk pm so ph pw => ?_)
  rw [w2] at hp ok'
  rw [w3] at pm
  have e1 : st'.map (·.1) = st.map (·.1) := sorted_one pm so M.so M.inT
  have e2 : st' = st := st_one e1 ok'.nd fun t => by rw [lk t, w3]
  subst e2
  rw [intsW_lst] at ph
  exact q hs' H2 s2 ph pw (pat_cut (D.same s2) hp M.ok.few)
theorem st6 (L : LEnv P w K mg base T C CB CS) (hr : Room 8 (XL P w K mg base f c0 A outer s H0 E).A) : Hst (XL P w K mg base f c0 A outer s H0 E) (lawSt 6) (Q5 CB T d l c) (Q1 T d l c) := by
  refine Hst.of (ps_if (PW.pt (pw_and (pt_cmpR op_notN (pv 6) pe_non (nomark _)) (pw_and1 (PW.pt (pw_or (pt_not (pt_val (pe_callB call_isq (by rfl) (L.fr "isinstance" (by decide)) PyProof.Rows.boot_isinstance (pa_cons (pv 6) (pa_cons (pe_glob (v := .ref CB) (by rfl) L.gB rfl) pa_nil)))))
      (pw_or1 (pt_cmpR op_ne (pe_attq (pv 6)) (pe_ix ix_list (pv 5) pe_int (fun _ _ => rfl)) (nomark _)))))))) (pss_one (ps_ret pe_bl)) pss_nil) ?_
  rintro Dn v H ⟨m, sd, g, kvs, st, gs, n, QMv, due, dl, h5, edue, hc⟩ q
  have fin := q v H ⟨m, sd, g, kvs, st, gs, n, QMv⟩
  rcases hc with ⟨rfl, h6⟩ | ⟨x, a, hx, rfl, h6, qa⟩
  · exact ⟨_, congrArg some h6, rfl, _, rfl, iteF (iteF fin)⟩
  · refine ⟨_, congrArg some h6, rfl, _, rfl, iteT ⟨_, congrArg some h6, a, CB, _, .ref CB, .ref CB, true, rfl, qa, L.is, .own CB, L.own, _, rfl, iteF ⟨_, congrArg some h6, a, CB, _, .str x, rfl, qa, L.is, L.no, rfl, _, congrArg some h5, due, _, 0, _, rfl, rfl, SqL.of (cut_le _ _ edue), at_of (j := 0) rfl rfl, rfl, false, ?_, iteF fin⟩⟩⟩
    show V.bl (!decide _) = _
    rw [decide_eq_true rfl]
    rfl
def Q8 (C : Addr) (T : List (Addr × Str)) (d l c : Addr) (v : Nat → Option V) (H : Hp) : Prop := ∃ m sd g kvs st gs n, QM T d l c v H m sd g kvs st gs n ∧ ∃ pm ps, v 7 = some (.ref pm) ∧ v 8 = some (.ref ps) ∧ PatAt C (cut d l H) pm n st gs ∧ PatAt C (cut d l H) ps n st gs
theorem st7 (L : LEnv P w K mg base T C CB CS) (hr : Room 8 (XL P w K mg base f c0 A outer s H0 E).A) : Hst (XL P w K mg base f c0 A outer s H0 E) (lawSt 7) (Q1 T d l c) (Q8 C T d l c) := by
  have S := scLa
  obtain ⟨fI, fdI, GI, MK, bI, bIk⟩ := L.make
  have hr6 := hr.mono (show 6 ≤ 8 by decide)
  have hu := hu_of hr
  have kb : KBn K fdI ["self", "steps", "good"] 1 ["good", "steps"] (fun us ws => us ++ ws.reverse) (fun vs zs => vs ++ zs.reverse) := by
    refine ⟨fun s us ws kin h1 h2 => ?_, fun r rz => vals_app r (vals_rev rz)⟩
    match us, ws, h1, h2 with
    | [u], [a, b], _, _ => exact bIk s u a b kin
  refine Hst.of (ps_par (i := 7) (j := 8) rfl S.nd rfl rfl (by decide) rfl rfl (pa_cons (pe_makeK0 MK GI hr6 (by rfl) L.gC kb (passes_call L2.takes0 fun _ _ _ _ h => h) (pk_cons (pe_dget hu (pv 3) pe_str (fun _ _ => rfl)) (pk_cons (pe_dget hu (pv 3) pe_str (fun _ _ => rfl)) pk_nil)))
      (pa_cons (pe_make MK GI hr6 (by rfl) L.gC bI .nil (passes_call L2.takes0 fun _ _ _ _ h => h) (pa_cons (pe_dget hu (pv 3) pe_str (fun _ _ => rfl)) (pa_cons (pe_revL (pe_dget hu (pv 3) pe_str (fun _ _ => rfl))) pa_nil))) pa_nil)) (by rfl) (by rfl)) ?_
  rintro Dn v H ⟨m, sd, g, kvs, st, gs, n, ⟨⟨h1, D, hT⟩, h3, M⟩⟩ q
  have M1 := M.at_.same cut_le
  have nd : gs.Nodup := M.pw.imp fun h => by omega
  refine ⟨_, congrArg some h3, m, _, rfl, M1.good, _, congrArg some h3, m, _, rfl, M1.steps, rfl, rfl, fun x dx hx hdx ne => ?_⟩
  refine make_mo (c := c) M D (ButN.refl) M1.gg M.rng nd hx hdx ne fun hs H1 s1 ph pw hp => ⟨rfl, ?_⟩
  obtain rfl : hs = gs := ints_one ph pw M.pw
  have D1 := D.same s1
  have B1 := (But.of (d := d) (l := l) s1).n
  have M2 := M.n B1
  have M2' := M2.at_.same cut_le
  refine ⟨_, congrArg some h3, m, _, rfl, M2'.steps, _, congrArg some h3, m, _, rfl, M2'.good, g, _, rfl, SqL.of M2'.gg, fun rv nrv => fun x2 dx2 hx2 hdx2 ne2 => ?_⟩
  have e2 : (upd H1 rv (.lst (hs.map V.int).reverse)) rv = some (.lst (hs.reverse.map V.int)) := by rw [upd_same, List.map_reverse]
  have s2 : Same H1 (upd H1 rv (.lst (hs.map V.int).reverse)) := same_new nrv
  generalize upd H1 rv (.lst (hs.map V.int).reverse) = H2 at e2 s2 hx2 hdx2 ⊢
  have B2 := (But.of (d := d) (l := l) s2).n
  refine make_mo (c := c) M2 (D1.same s2) B2 e2 (fun k hk => M.rng k (List.mem_reverse.mp hk)) (List.pairwise_reverse.mpr (nd.imp fun h => h.symm)) hx2 hdx2 ne2 fun hs2 H3 s3 ph2 pw2 hp2 => ⟨rfl, _, _, rfl, ?_⟩
  have e4 := ints_one (ph2.trans (List.reverse_perm _)) pw2 M.pw
  subst e4
  have B3 := B2.trans (But.of (d := d) (l := l) s3).n
  exact q (put (put v 7 (.ref x)) 8 (.ref x2)) H3 ⟨m, sd, g, kvs, st, hs2, n, ⟨⟨h1, (D1.same s2).same s3, (hT.ext s1).ext (s2.trans s3)⟩, h3, M2.n B3⟩, x, x2, rfl, rfl, hp.same B3.cut, hp2⟩
end
end Kn
-- part Lb2
set_option maxHeartbeats 8000000
namespace Kn
open PySem PySem.Spec PyProof.Rows L2 Err LamX
section
variable {P : Program} {w : World} {C CB : Addr} {K : PySem.W.Frag} {mg : Str → Option Value} {base : Heap} {T : List (Addr × Str)} {CS : Addr} {f c0 Pt : Addr} {A : Around} {outer : List Env} {s : Shared} {H0 : Hp} {E : XK} {d l c : Addr}
/-- the states below i that are not good -/
def nearL (gs : List Int) (i : Nat) : List Int := ((List.range i).map fun j : Nat => (j : Int)).filter fun k => !decide (k ∈ gs)
theorem nearL_succ (gs : List Int) (i : Nat) : nearL gs (i + 1) = nearL gs i ++ (if (i : Int) ∈ gs then [] else [(i : Int)]) := by
  unfold nearL
  rw [List.range_succ, List.map_append, List.filter_append]
  congr 1
  by_cases h : (i : Int) ∈ gs
  · rw [if_pos h]
    simp [h]
  · rw [if_neg h]
    simp [h]
theorem nearL_in {gs : List Int} {i : Nat} {k : Int} (h : k ∈ nearL gs i) : 0 ≤ k ∧ k < (i : Int) ∧ k ∉ gs := by
  unfold nearL at h
  obtain ⟨h1, h2⟩ := List.mem_filter.mp h
  obtain ⟨j, hj, rfl⟩ := List.mem_map.mp h1
  have z := List.mem_range.mp hj
  exact ⟨by omega, by omega, by simpa using h2⟩
theorem nearL_pw (gs : List Int) (i : Nat) : (nearL gs i).Pairwise (· < ·) := by
  unfold nearL
  refine List.Pairwise.filter _ (List.Pairwise.map _ (fun a b h => ?_) List.pairwise_lt_range)
  omega
theorem nearL_len (gs : List Int) (i : Nat) : (nearL gs i).length ≤ i := by
  unfold nearL
  refine Nat.le_trans (List.length_filter_le _ _) ?_
  rw [List.length_map, List.length_range]
  exact Nat.le_refl _
theorem nearL_ne {gs : List Int} {n : Nat} (h : 1 ≤ n) : gs ≠ nearL gs n := by
  intro e
  by_cases z : (0 : Int) ∈ gs
  · have y := z
    rw [e] at y
    exact (nearL_in y).2.2 z
  · refine z ?_
    rw [e]
    unfold nearL
    refine List.mem_filter.mpr ⟨List.mem_map.mpr ⟨0, List.mem_range.mpr h, rfl⟩, ?_⟩
    simpa using z
def Q9 (C : Addr) (T : List (Addr × Str)) (d l c : Addr) (v : Nat → Option V) (H : Hp) : Prop := ∃ m sd g kvs st gs n, QM T d l c v H m sd g kvs st gs n ∧ ∃ pm ps pn, v 7 = some (.ref pm) ∧ v 8 = some (.ref ps) ∧ v 9 = some (.ref pn) ∧ PatAt C (cut d l H) pm n st gs ∧ PatAt C (cut d l H) ps n st gs ∧ PatAt C (cut d l H) pn n st (nearL gs n)
theorem st8 (L : LEnv P w K mg base T C CB CS) (hr : Room 8 (XL P w K mg base f c0 A outer s H0 E).A) : Hst (XL P w K mg base f c0 A outer s H0 E) (lawSt 8) (Q8 C T d l c) (Q9 C T d l c) := by
  have S := scLa
  obtain ⟨fI, fdI, GI, MK, bI, bIk⟩ := L.make
  obtain ⟨p3, f3, fd3, G3, pp3, b3⟩ := L.p3
  have hr6 := hr.mono (show 6 ≤ 8 by decide)
  have hr2 := hr.mono (show 2 ≤ 8 by decide)
  have hu := hu_of hr
  refine Hst.of (ps_set (i := 9) S.nd rfl (.inl rfl) (pe_make MK GI hr6 (by rfl) L.gC bI .nil (passes_call L2.takes0 fun _ _ _ _ h => h) (pa_cons (pe_dget hu (pv 3) pe_str (fun _ _ => rfl)) (pa_cons
    (pe_lc (own := [("_law_state", 19)]) (g := gName 19) rfl S.nd (pi_range1 (by rfl) (L.fr "range" (by decide)) (pa_cons (pe_prop (pv 7) L.tx.cl pp3 G3 hr2 b3 .nil pass0 rfl) pa_nil)) (blkOk_by (N := NLa) (sc := defScope sLaw) (by decide +kernel)) (fun _ _ _ _ _ => pg_name (i := 19) S.nd rfl (.inl rfl))
      (fun _ _ _ _ _ => pts_one (pt_cmpR (show OpR _ (compareOp .NotIn) (rIn K true) from op_notIn_seq) (pv 19) (pe_dget hu (pv 3) pe_str (fun _ _ => rfl)) rfl)) (fun _ _ _ _ _ => pv 19)) pa_nil)))) ?_
  rintro Dn v H ⟨m, sd, g, kvs, st, gs, n, ⟨⟨h1, D, hT⟩, h3, M⟩, pm, ps, h7, h8, hp7, hp8⟩ q
  have M1 := M.at_.same cut_le
  have n4 := M.ok.n4
  have hp7' := hp7.same cut_le
  obtain ⟨dx, ds, tg, kp, i1, i2, i3, i4⟩ := id hp7'.ex
  refine ⟨_, congrArg some h3, m, _, rfl, M1.steps, _, congrArg some h7, pm, dx, _, rfl, i1, pm, n, st, gs, rfl, hp7', ?_⟩
  refine ⟨(n : Int), rfl, by omega, by omega, fun Dd nD => lc_it (D := Dd) walk_range (fun i H4 => Same H H4 ∧ H4 Dd = some (.lst ((nearL gs i).map V.int))) ⟨same_new nD, by rw [upd_same]; rfl⟩ (fun _ _ _ _ => trivial) ?_ ?_⟩
  · rintro i x H4 H5 hi ⟨s4, e4⟩ ⟨rfl, rfl⟩
    have M4 := M1.same s4
    have e0 : (0 : Int) + (i : Nat) = (i : Int) := by omega
    refine ⟨rfl, _, rfl, _, congrArg some h3, m, _, rfl, M4.good, g, gs.map V.int, rfl, .inl (SqL.of M4.gg), rfl, flat_ints gs, _, rfl, ?_⟩
    rw [if_pos rfl, inV_ints, e0]
    by_cases hk : (i : Int) ∈ gs
    · rw [decide_eq_true hk]
      refine iteF ⟨s4, ?_⟩
      rw [e4, nearL_succ, if_pos hk, List.append_nil]
    · rw [decide_eq_false hk]
      have z := nearL_len gs i
      refine iteT ⟨_, rfl, _, e4, by rw [List.length_map]; exact small1000 (by omega), same_own nD s4, ?_⟩
      rw [upd_same, nearL_succ, if_neg hk, List.map_append]
      show some (HO.lst (_ ++ [V.int (0 + (i : Int))])) = _
      rw [e0]
      rfl
  · rintro H4 ⟨s4, e4⟩
    refine fun x dx hx hdx ne => ?_
    have nd : (nearL gs n).Nodup := (nearL_pw gs n).imp fun h => by omega
    have B4 := (But.of (d := d) (l := l) s4).n
    refine make_mo (c := c) M (D.same s4) B4 e4 (fun k hk => by have z := nearL_in hk; omega) nd hx hdx ne fun hs H5 s5 ph pw hp => ⟨rfl, ?_⟩
    obtain rfl := ints_one ph pw (nearL_pw gs n)
    have s6 := s4.trans s5
    have B6 := (But.of (d := d) (l := l) s6).n
    exact q (put v 9 (.ref x)) H5 ⟨m, sd, g, kvs, st, gs, n, ⟨⟨h1, D.same s6, hT.ext s6⟩, h3, M.n B6⟩, pm, ps, x, h7, h8, rfl, hp7.same B6.cut, hp8.same B6.cut, hp⟩
theorem st9 (L : LEnv P w K mg base T C CB CS) (hr : Room 8 (XL P w K mg base f c0 A outer s H0 E).A) : Hst (XL P w K mg base f c0 A outer s H0 E) (lawSt 9) (Q9 C T d l c) (Q8 C T d l c) := by
  have S := scLa
  obtain ⟨fE, fdE, GE, bE, hE, iE⟩ := L.eq
  obtain ⟨p1, f1, fd1, G1, pp1, b1⟩ := L.p1
  have hr1 := hr.mono (show 1 ≤ 8 by decide)
  have hr2 := hr.mono (show 2 ≤ 8 by decide)
  have eqO := @op_eqO (XL P w K mg base f c0 A outer s H0 E) CX0 C fE fdE _ _ E0 1 GE bE hE iE hr1 pass0
  have neO := @op_neO (XL P w K mg base f c0 A outer s H0 E) CX0 C fE fdE _ _ E0 1 GE bE hE iE L.ne0 L.hm hr2 pass0
  refine Hst.of (ps_if (PW.pt (pw_or (pt_cmpR neO (pv 7) (pv 8) (nomark _)) (pw_or (pt_cmpR eqO (pv 7) (pv 9) (nomark _)) (pw_or (pt_cmpR eqO (pv 7) (pv 3) (nomark _)) (pw_or1 (pt_not (pt_cmpR neO (pv 7) (pe_prop (pv 7) L.tx.cl pp1 G1 hr2 b1 .nil pass0 rfl) (nomark _)))))))) (pss_one (ps_ret pe_bl)) pss_nil) ?_
  rintro Dn v H ⟨m, sd, g, kvs, st, gs, n, ⟨⟨h1, D, hT⟩, h3, M⟩, pm, ps, pn, h7, h8, h9, hp7, hp8, hp9⟩ q
  have e7 := hp7.same cut_le
  have e8 := hp8.same cut_le
  have e9 := hp9.same cut_le
  have M1 := M.at_.same cut_le
  obtain ⟨dx, ds, tg, kp, i1, i2, i3, i4⟩ := id e7.ex
  obtain ⟨dx8, ds8, tg8, kp8, j1, _, _, _⟩ := id e8.ex
  obtain ⟨dx9, ds9, tg9, kp9, k1, _, _, _⟩ := id e9.ex
  have nd := M.ok.nd
  refine ⟨_, congrArg some h7, _, congrArg some h8, pm, dx, _, .ref C, rfl, i1, .inl ⟨ps, dx8, _, rfl, j1, rfl⟩, L.nf1, pm, n, st, gs, .ref ps, rfl, e7, .inr ⟨ps, gs, rfl, e8, nd, _, rfl, _, rfl, ?_⟩⟩
  rw [decide_eq_true rfl]
  refine iteF ⟨_, congrArg some h7, _, congrArg some h9, pm, dx, _, .ref C, rfl, i1, .inl ⟨pn, dx9, _, rfl, k1, rfl⟩, L.nf1, pm, n, st, gs, .ref pn, rfl, e7, .inr ⟨pn, nearL gs n, rfl, e9, nd, _, rfl, _, rfl, ?_⟩⟩
  rw [decide_eq_false (nearL_ne M.ok.n1)]
  refine iteF ⟨_, congrArg some h7, _, congrArg some h3, pm, dx, _, .type "dict", rfl, i1, .inr ⟨m, _, rfl, M1.at_, rfl⟩, L.nf2, pm, n, st, gs, .ref m, rfl, e7, .inl ⟨.type "dict", .base (.dK M1.at_), L.dct, _, rfl, _, rfl, iteF ?_⟩⟩
  refine ⟨_, congrArg some h7, _, congrArg some h7, pm, dx, _, rfl, i1, pm, n, st, gs, rfl, e7, fun t kq nt lq => ?_⟩
  have s1 : Same H (upd H t (.dK kq)) := same_new nt
  have B1 := (But.of (d := d) (l := l) s1).n
  refine ⟨pm, dx, _, .type "dict", rfl, s1 _ _ i1, .inr ⟨t, kq, rfl, upd_same, rfl⟩, L.nf2, pm, n, st, gs, .ref t, rfl, e7.same s1, .inl ⟨.type "dict", .base (.dK upd_same), L.dct, _, rfl, _, rfl, iteF ?_⟩⟩
  exact q v _ ⟨m, sd, g, kvs, st, gs, n, ⟨⟨h1, D.same s1, hT.ext s1⟩, h3, M.n B1⟩, pm, ps, h7, h8, hp7.same B1.cut, hp8.same B1.cut⟩
/-- the model as rows_right wants it -/
theorem right_pre {H : Hp} {m sd g p : Addr} {kvs : List (Key × V)} {st : List (Str × List Int)} {gs : List Int} {n : Nat} {Q : VK} {E : XK} (M : Mo d l H m sd g kvs st gs n) (D : Drw H d l c) (hT : Tabs T H) (hp : PatAt C (cut d l H) p n st gs)
    (q : ∀ H', Drw H' d l c → Tabs T H' → ButN d l H H' → Q (.bl true) H') : spLRight T C [.ref d, .ref p, .ref m] H Q E :=
  ⟨d, l, c, p, m, sd, g, kvs, n, st, gs, st, gs, rfl, D, hT, hp, M.ok, M.at_, M.ok, fun _ => rfl, fun _ => .rfl, fun t ht => ⟨(ti_all t (M.inT t ht)).2.1, (ti_all t (M.inT t ht)).2.2.1⟩, fun z => (ti_all _ (M.inT _ z)).2.2.2.1 rfl, q⟩
def Q10 (C : Addr) (T : List (Addr × Str)) (d l c : Addr) (v : Nat → Option V) (H : Hp) : Prop := ∃ m sd g kvs st gs n, QM T d l c v H m sd g kvs st gs n ∧ ∃ pm, v 7 = some (.ref pm) ∧ PatAt C (cut d l H) pm n st gs
theorem st10 (L : LEnv P w K mg base T C CB CS) (hr : Room 8 (XL P w K mg base f c0 A outer s H0 E).A) : Hst (XL P w K mg base f c0 A outer s H0 E) (lawSt 10) (Q8 C T d l c) (Q10 C T d l c) := by
  obtain ⟨fR, fdR, GR, kR, bR, gR⟩ := L.right
  have hr7 := hr.mono (show 7 ≤ 8 by decide)
  refine Hst.of (ps_if (pt_not (pt_val (pe_call GR hr7 (by rfl) gR kR bR .nil pass0 (pa_cons (pv 1) (pa_cons (pv 7) (pa_cons (pv 3) pa_nil)))))) (pss_one (ps_ret pe_bl)) pss_nil) ?_
  rintro Dn v H ⟨m, sd, g, kvs, st, gs, n, ⟨⟨h1, D, hT⟩, h3, M⟩, pm, ps, h7, h8, hp7, hp8⟩ q
  refine ⟨_, congrArg some h1, _, congrArg some h7, _, congrArg some h3, ?_⟩
  dsimp only [tNil, List.append_nil]
  refine right_pre M D hT hp7 fun H1 D1 T1 B1 => ?_
  exact ⟨_, rfl, iteF (q v H1 ⟨m, sd, g, kvs, st, gs, n, ⟨⟨h1, D1, T1⟩, h3, M.n B1⟩, pm, h7, hp7.same B1.cut⟩)⟩
end
end Kn
-- part Lb3
set_option maxHeartbeats 8000000
namespace Kn
open PySem PySem.Spec PyProof.Rows L2 Err LamX
section
variable {P : Program} {w : World} {C CB : Addr} {K : PySem.W.Frag} {mg : Str → Option Value} {base : Heap} {T : List (Addr × Str)} {CS : Addr} {f c0 Pt : Addr} {A : Around} {outer : List Env} {s : Shared} {H0 : Hp} {E : XK} {d l c : Addr}
def Q11 (C : Addr) (T : List (Addr × Str)) (d l c : Addr) (v : Nat → Option V) (H : Hp) : Prop := ∃ m sd g kvs st gs n Hb pm lt sm kvs2, Q0 T d l c v H ∧ v 3 = some (.ref m) ∧ Mo d l Hb m sd g kvs st gs n ∧ ButN d l Hb H ∧ Drw Hb d l c ∧ PatAt C (cut d l Hb) pm n st gs ∧ v 7 = some (.ref pm) ∧ v 11 = some (.ref lt) ∧ v 12 = some (.ref sm) ∧
  Hb lt = none ∧ Hb sm = none ∧ H lt = some (.dK kvs2) ∧ StepL Hb H n (st.map (·.1)) kvs2 st ∧ H sm = some (.lst (gs.map V.int))
theorem st11 (L : LEnv P w K mg base T C CB CS) (hr : Room 8 (XL P w K mg base f c0 A outer s H0 E).A) : Hst (XL P w K mg base f c0 A outer s H0 E) (lawSt 11) (Q10 C T d l c) (Q11 C T d l c) := by
  have S := scLa
  have hu := hu_of hr
  have md := L.fr "dict" (by decide)
  have mi := L.fr "list" (by decide)
  refine Hst.of (ps_par (i := 11) (j := 12) rfl S.nd rfl rfl (by decide) rfl rfl
      (pa_cons (pe_callTy (call_dictP rfl) (by rfl) md (by decide +kernel) (pa_cons (pe_lock (pe_lc (own := [("_law_key", 10)]) (g := gName 10) rfl S.nd (pi_keys (pe_dget hu (pv 3) pe_str (fun _ _ => rfl))) (blkOk_by (N := NLa) (sc := defScope sLaw) (by decide +kernel)) (fun _ _ _ _ _ => pg_name (i := 10) S.nd rfl (.inl rfl)) (fun _ _ _ _ _ => pts_nil)
          (fun _ _ _ _ _ => pe_tup (pa_cons (pv 10) (pa_cons (pe_callTy (show CallR _ (.type "list") (rLstA K) from call_list_of) (by rfl) mi (by decide +kernel) (pa_cons (pe_dget hu (pe_dget hu (pv 3) pe_str (fun _ _ => rfl)) (pv 10) (fun _ _ => rfl)) pa_nil)) pa_nil))))) pa_nil))
        (pa_cons (pe_callTy call_list_of (by rfl) mi (by decide +kernel) (pa_cons (pe_dget hu (pv 3) pe_str (fun _ _ => rfl)) pa_nil)) pa_nil)) (by rfl) (by rfl)) ?_
  rintro Dn v H ⟨m, sd, g, kvs, st, gs, n, ⟨⟨h1, D, hT⟩, h3, M⟩, pm, h7, hp7⟩ q
  have M1 := M.at_.same cut_le
  have ha := M1.ss
  have hkeys := M1.lin.keys
  have few := M.ok.few
  have n4 := M.ok.n4
  have hmsd : m ≠ sd := fun z => by
    have e := M1.at_
    rw [z, ha] at e
    cases e
    cases M1.lin with
    | cons h r =>
      rw [ha] at h
      cases h
  have ndk : (kvs.map (·.1)).Nodup := by
    rw [hkeys]
    exact List.Pairwise.map _ (fun a b h z => h (Sum.inr.inj z)) M.ok.nd
  have ltk : (st.map (·.1)).length = kvs.length := by rw [List.length_map, M1.lin.len]
  -- the dict made anew
  refine ⟨sd, _, ha, trivial, fun od => ?_⟩
  have hHL : upd H sd (.frz od (.dK kvs)) sd = some (.frz od (.dK kvs)) := upd_same
  have hmL : upd H sd (.frz od (.dK kvs)) m = some (.dK [(.inr "steps", .ref sd), (.inr "good", .ref g)]) := by rw [upd_ne hmsd]; exact M1.at_
  have backL : ∀ {x : Addr}, upd H sd (.frz od (.dK kvs)) x = none → H x = none := fun {x} z => by
    by_cases e : x = sd
    · rw [e, upd_same] at z
      cases z
    · rw [upd_ne e] at z
      exact z
  have lineL : ∀ b xs, H b = some (.lst xs) → upd H sd (.frz od (.dK kvs)) b = some (.lst xs) := fun b xs h => by
    rw [upd_ne (ne_of h ha (by intro z; cases z))]
    exact h
  have unL : ∀ H5 : Hp, Same (upd H sd (.frz od (.dK kvs))) H5 → Same H (upd H5 sd (.dK kvs)) := fun H5 s b o e => by
    by_cases z : b = sd
    · rw [z, upd_same]
      rw [z, ha] at e
      exact e
    · rw [upd_ne z]
      exact s b o (by rw [upd_ne z]; exact e)
  generalize upd H sd (.frz od (.dK kvs)) = HL at hHL hmL backL lineL unL ⊢
  have dst : ∀ {H9 : Hp}, H9 m = some (.dK [(.inr "steps", .ref sd), (.inr "good", .ref g)]) → DGet H9 m (.str "steps") (some (.ref sd)) := fun {H9} e => mv_steps sd g ▸ DGet.k (k := .inr "steps") e
  have dgd : ∀ {H9 : Hp}, H9 m = some (.dK [(.inr "steps", .ref sd), (.inr "good", .ref g)]) → DGet H9 m (.str "good") (some (.ref g)) := fun {H9} e => mv_good sd g ▸ DGet.k (k := .inr "good") e
  refine ⟨_, congrArg some h3, m, _, rfl, dst hmL, sd, od, rfl, .inl ⟨kvs, hHL, fun Dd nD => lc_it (D := Dd) walk_keys (fun i H4 => Same HL H4 ∧ ∃ ps kvs2 ws, H4 Dd = some (.lst (ps.map V.ref)) ∧ PairT H4 ps kvs2 ∧ StepL (upd HL Dd (.lst [])) H4 n ((st.map (·.1)).take i) kvs2 ws ∧ ps.length = i ∧ ∀ q ∈ ws, st.lookup q.1 = some q.2)
    ⟨same_new nD, [], [], [], upd_same, .nil, by simpa using StepL.nil, rfl, fun q hq => by cases hq⟩ (fun i H' _ p => p.1 _ _ hHL) ?_ ?_⟩⟩
  · rintro i x Hz H3 hi ⟨s3, ps, kvs2, ws, hD3, hP3, sL3, hl3, hw3⟩ ⟨rfl, k, vv, hk, rfl⟩
    obtain ⟨t, ht, rfl⟩ : ∃ t, (st.map (·.1))[i]? = some t ∧ k = .inr t := by
      have z : (kvs.map (·.1))[i]? = some k := by rw [List.getElem?_map, hk]; rfl
      rw [hkeys, List.getElem?_map] at z
      obtain ⟨t, e1, e2⟩ := Option.map_eq_some_iff.mp z
      exact ⟨t, e1, e2.symm⟩
    obtain ⟨ns, hns⟩ := look_some (List.mem_of_getElem? ht)
    obtain ⟨b, hval, hb⟩ := M1.lin.get hns
    obtain ⟨hlen, hrng⟩ := M.ok.row t ns hns
    have hb3 := s3 _ _ (lineL b _ hb)
    refine ⟨rfl, ?_⟩
    dsimp only [tYes]
    rw [if_pos rfl]
    have tk : (st.map (·.1)).take (i + 1) = (st.map (·.1)).take i ++ [t] := by
      rw [List.take_add_one, ht]
      rfl
    refine ⟨_, rfl, _, congrArg some h3, m, _, rfl, dst (s3 _ _ hmL), _, rfl, sd, .ref b, rfl, .inl ⟨kvs, .inr t, .inr ⟨od, s3 _ _ hHL⟩, rfl, hval.symm⟩, b, _, rfl, .inl (SqL.of hb3), fun lb nlb => ⟨by show 2 ≤ sizeLine; decide, fun Tt nT => ?_⟩⟩
    have s4 : Same H3 (upd (upd H3 lb (.lst (ns.map V.int))) Tt (.tup [kV (Sum.inr t), V.ref lb])) := (same_new nlb).trans (same_new nT)
    have e4 : (upd (upd H3 lb (.lst (ns.map V.int))) Tt (.tup [kV (Sum.inr t), V.ref lb])) lb = some (.lst (ns.map V.int)) := same_new nT _ _ upd_same
    have e5 : (upd (upd H3 lb (.lst (ns.map V.int))) Tt (.tup [kV (Sum.inr t), V.ref lb])) Tt = some (.tup [kV (Sum.inr t), V.ref lb]) := upd_same
    have nlbD : (upd HL Dd (.lst [])) lb = none := by
      rw [upd_ne (fun z => by rw [z, hD3] at nlb; cases nlb)]
      exact s3.free nlb
    generalize upd (upd H3 lb (.lst (ns.map V.int))) Tt (.tup [kV (Sum.inr t), V.ref lb]) = H5 at s4 e4 e5 ⊢
    have s5 := s3.trans s4
    have hD5 := s4 _ _ hD3
    have ow : ∀ x o, H5 x = some o → (∀ xs, o ≠ .lst xs) → ∀ o2, (upd H5 Dd o2) x = some o := fun x o e n o2 => by
      rw [upd_ne (fun z => by rw [z, hD5] at e; exact n _ (Option.some.inj e).symm)]
      exact e
    have ltt := (List.getElem?_eq_some_iff.mp ht).1
    refine ⟨_, hD5, by rw [List.length_map]; exact small1000 (by rw [List.length_map] at ltt; omega), same_own nD s5, ps ++ [Tt], kvs2 ++ [(.inr t, .ref lb)], ws ++ [(t, ns)], by rw [upd_same, List.map_append]; rfl, ?_, ?_, by rw [List.length_append, hl3]; rfl, fun q hq => ?_⟩
    · refine Paired.snoc (Paired.mono (fun p kv e => ?_) (hP3.same s4)) ?_
      · exact ow _ _ e (fun _ z => by cases z) _
      · exact ow _ _ e5 (fun _ z => by cases z) _
    · rw [tk]
      have nDd : ∀ {x : Addr}, (upd HL Dd (.lst [])) x = none → x ≠ Dd := fun {x} z e => by rw [e, upd_same] at z; cases z
      refine StepL.snoc ((sL3.same s4).mono fun x xs n e => by rw [upd_ne (nDd n)]; exact e) nlbD ?_ hlen hrng
      rw [upd_ne (nDd nlbD)]
      exact e4
    · rcases List.mem_append.mp hq with z | z
      · exact hw3 q z
      · rw [List.mem_singleton.mp z]
        exact hns
  · rintro H5 ⟨s5, ps, kvs2, ws, hD5, hP5, sL5, hl5, hw5⟩
    rw [List.take_of_length_le (by omega)] at sL5
    have sU := unL H5 s5
    have upU : ∀ {x o}, H5 x = some o → (∀ ob u, o ≠ .frz ob u) → (upd H5 sd (.dK kvs)) x = some o := fun {x o} e n => by
      rw [upd_ne (fun z => by rw [z, s5 _ _ hHL] at e; exact n _ _ (Option.some.inj e).symm)]
      exact e
    have hDu := upU hD5 (fun _ _ z => by cases z)
    have hPu : PairT (upd H5 sd (.dK kvs)) ps kvs2 := Paired.mono (fun p kv e => upU e (fun _ _ z => by cases z)) hP5
    have sLu : StepL H (upd H5 sd (.dK kvs)) n (st.map (·.1)) kvs2 ws := (sL5.mono fun x xs _ e => upU e (fun _ _ z => by cases z)).base fun x z => backL (by
      by_cases e : x = Dd
      · rw [e, upd_same] at z; cases z
      · rw [upd_ne e] at z; exact z)
    refine ⟨s5 _ _ hHL, Dd, ps, kvs2, rfl, SqL.of hDu, Paired.mono (fun p kv e => SqT.of e) hPu, fun lt nlt => ?_⟩
    have hkk : kvs2.map (·.1) = (st.map (·.1)).map Sum.inr := sLu.keys
    have ndv : (kvs2.map (·.1)).Nodup := by rw [hkk, ← hkeys]; exact ndk
    obtain rfl : ws = st := st_one sLu.names (by rw [sLu.names]; exact M.ok.nd) fun t => by
      by_cases ht : t ∈ ws.map (·.1)
      · obtain ⟨ns, e⟩ := look_some ht
        rw [e, hw5 _ (look_of e)]
      · rw [look_none ht, look_none (by rw [sLu.names] at ht; exact ht)]
    rw [merge_new kvs2 [] (by simpa using ndv), List.nil_append]
    have s6 : Same H (upd (upd H5 sd (.dK kvs)) lt (.dK kvs2)) := sU.trans (same_new nlt)
    have e6 : (upd (upd H5 sd (.dK kvs)) lt (.dK kvs2)) lt = some (.dK kvs2) := upd_same
    have sL6 := sLu.same (same_new (o := .dK kvs2) nlt)
    have nltH : H lt = none := sU.free nlt
    generalize upd (upd H5 sd (.dK kvs)) lt (.dK kvs2) = H6 at s6 e6 sL6 ⊢
    refine ⟨_, congrArg some h3, m, _, rfl, dgd (s6 _ _ M1.at_), g, _, rfl, .inl (SqL.of (s6 _ _ M1.gg)), fun ls nls => ⟨_, _, rfl, ?_⟩⟩
    have s7 := s6.trans (same_new (o := .lst (gs.map V.int)) nls)
    have B7 := (But.of (d := d) (l := l) s7).n
    exact q (put (put v 11 (.ref lt)) 12 (.ref ls)) _ ⟨m, sd, g, kvs, ws, gs, n, H, pm, lt, ls, kvs2, ⟨h1, D.same s7, hT.ext s7⟩, h3, M, B7, D, hp7, h7, rfl, rfl, nltH, s6.free nls, same_new nls _ _ e6, sL6.same (same_new nls), upd_same⟩
end
end Kn
-- part Lb4
set_option maxHeartbeats 8000000
namespace Kn
open PySem PySem.Spec PyProof.Rows L2 Err LamX
theorem lin_is {H : Hp} : ∀ {kvs : List (Key × V)} {st : List (Str × List Int)}, LinL H kvs st → (∀ t ∈ st.map (·.1), t ∈ TI) → (∀ q ∈ st, q.2.length ≤ 900) → IsKV H (kvs.map fun p => (some p.1, p.2)) (modK st) := by
  intro kvs st h
  induction h with
  | nil => intro _ _; exact .nil
  | cons h r ih =>
    intro h1 h2
    have z := ti_all _ (h1 _ (List.mem_cons_self ..))
    exact .cons ⟨z.2.1, z.2.2.1⟩ (.lst (by rw [List.length_map]; exact h2 _ (List.mem_cons_self ..)) h (is_ints _)) (ih (fun t ht => h1 t (List.mem_cons_of_mem _ ht)) fun q hq => h2 q (List.mem_cons_of_mem _ hq))
theorem pat_hole {C : Addr} {H : Hp} {p lt : Addr} {n : Nat} {st : List (Str × List Int)} {gs : List Int} {kvs2 : List (Key × V)} (h : PatAt C H p n st gs) (e : H lt = some (.dK kvs2)) (hl : ∀ q ∈ kvs2, ∃ (t : Str) (b : Addr) (xs : List V), q = (.inr t, .ref b) ∧ H b = some (.lst xs)) (ne : st ≠ []) : PatAt C (hole lt H) p n st gs := by
  obtain ⟨dx, ds, tg, kvs, h1, h2, h3, h4⟩ := h.ex
  have tup : ∀ {a : Addr} {xs : List V}, Rd H a (.tup xs) → Rd (hole lt H) a (.tup xs) := fun {a xs} r => by
    rcases r with r | ⟨o, r⟩
    · exact .inl (hole_at r (ne_of r e (by intro z; cases z)))
    · exact .inr ⟨o, hole_at r (ne_of r e (by intro z; cases z))⟩
  have lin : ∀ {kvs : List (Key × V)} {st : List (Str × List Int)}, LinT H kvs st → LinT (hole lt H) kvs st := by
    intro kvs st h
    induction h with
    | nil => exact .nil
    | cons h r ih => exact .cons (tup h) ih
  refine ⟨dx, ds, tg, kvs, hole_at h1 (ne_of h1 e (by intro z; cases z)), hole_at h2 (fun z => ?_), lin h3, tup h4⟩
  rw [z, e] at h2
  cases h2
  cases h3 with
  | nil => exact ne rfl
  | cons r _ =>
    obtain ⟨t, b, xs, e1, e2⟩ := hl _ (List.mem_cons_self ..)
    cases e1
    rcases r with r | ⟨o, r⟩ <;> (rw [e2] at r; cases r)
theorem pat_nl {C : Addr} {H H' : Hp} {p lt : Addr} {n : Nat} {st : List (Str × List Int)} {gs : List Int} (h : PatAt C (hole lt H) p n st gs) (k : ∀ b o, H b = some o → b ≠ lt → (∀ xs, o ≠ .lst xs) → H' b = some o) : PatAt C (hole lt H') p n st gs := by
  obtain ⟨dx, ds, tg, kvs, h1, h2, h3, h4⟩ := h.ex
  have kp : ∀ {b o}, hole lt H b = some o → (∀ xs, o ≠ .lst xs) → hole lt H' b = some o := fun {b o} e n => by
    obtain ⟨e1, e2⟩ := hole_ne e
    exact hole_at (k _ _ e2 e1 n) e1
  have tup : ∀ {a : Addr} {xs : List V}, Rd (hole lt H) a (.tup xs) → Rd (hole lt H') a (.tup xs) := fun {a xs} r => by
    rcases r with r | ⟨o, r⟩
    · exact .inl (kp r (fun _ z => by cases z))
    · exact .inr ⟨o, kp r (fun _ z => by cases z)⟩
  have lin : ∀ {kvs : List (Key × V)} {st : List (Str × List Int)}, LinT (hole lt H) kvs st → LinT (hole lt H') kvs st := by
    intro kvs st h
    induction h with
    | nil => exact .nil
    | cons h r ih => exact .cons (tup h) ih
  exact ⟨dx, ds, tg, kvs, kp h1 (fun _ z => by cases z), kp h2 (fun _ z => by cases z), lin h3, tup h4⟩
theorem hole_le {r : Addr} {H : Hp} : Same (hole r H) H := fun b o e => (hole_ne e).2
section
variable {P : Program} {w : World} {C CB : Addr} {K : PySem.W.Frag} {mg : Str → Option Value} {base : Heap} {T : List (Addr × Str)} {CS : Addr} {f c0 Pt : Addr} {A : Around} {outer : List Env} {s : Shared} {H0 : Hp} {E : XK} {d l c : Addr}
/-- a pattern made of lines and good states that are right -/
theorem make_lin {H' : Hp} {lt a : Addr} {kvs : List (Key × V)} {st : List (Str × List Int)} {hs : List Int} {n : Nat} (ok : PatOk n st) (inT : ∀ t ∈ st.map (·.1), t ∈ TI) (so : sortedS (st.map (·.1)) = true) (e : H' lt = some (.dK kvs)) (lin : LinL H' kvs st) (ea : H' a = some (.lst (hs.map V.int))) (rng : ∀ k ∈ hs, 0 ≤ k ∧ k < (n : Int)) (nd : hs.Nodup)
    {x dx : Addr} {E : XK} (hx : H' x = none) (hdx : H' dx = none) (ne : dx ≠ x) {Q2 : VK}
    (q : ∀ hs' H2, Same H' H2 → hs'.Perm hs → hs'.Pairwise (· ≤ ·) → PatAt C H2 x n st hs' → Q2 .non H2) : spOr (spInit C CB) (spInit2 P w C CB) [.ref x, .ref lt, .ref a] (upd (upd H' dx (.own x)) x (.ins C dx [])) Q2 E := by
  obtain ⟨w1, w2, w3⟩ := modW_ok ok inT
  have lh := nodup_below n hs nd rng
  have n4 := ok.n4
  have few := ok.few
  have gd : goodW ((manyW (modW st) : Nat) : Int) (.lst (hs.map W.int)) = true := by rw [w2]; exact good_lst rng nd
  have hIs : Is H' (.ref lt) (modW st) := .dct (by rw [List.length_map, lin.len]; omega) ⟨kvs, .inl e, rfl⟩ (lin_is lin inT fun q hq => by
    have := (ok.row q.1 q.2 (look_mem ok.nd hq)).1
    omega)
  refine make_right (u := modW st) (ug := .lst (hs.map W.int)) hx hdx ne hIs (fun a o u z y => by cases z; rw [e] at y; cases y) (fun a ks z y => ?_) (.lst (by rw [List.length_map]; omega) ea (is_ints hs)) (tok_lst ea)
    (fun e => by rw [w1] at e; cases e) (fun _ e => by rw [gd] at e; cases e) (fun _ _ st' hs' H2 s2 hp ok' lk pm so' ph pw => ?_)
  · cases z
    rw [e] at y
    cases y
    rw [lin.keys]
    exact List.Pairwise.map _ (fun a b h z => h (Sum.inr.inj z)) ok.nd
  · rw [w2] at hp ok'
    rw [w3] at pm
    have e1 : st'.map (·.1) = st.map (·.1) := sorted_one pm so' so inT
    have e2 : st' = st := st_one e1 ok'.nd fun t => by rw [lk t, w3]
    subst e2
    rw [intsW_lst] at ph
    exact q hs' H2 s2 ph pw hp
def QKx (C : Addr) (T : List (Addr × Str)) (d l c : Addr) (B : Nat) (v : Nat → Option V) (H : Hp) (m sd g : Addr) (kvs : List (Key × V)) (st : List (Str × List Int)) (gs : List Int) (n : Nat) (Hb : Hp) (pm lt sm pk : Addr) (kvs2 : List (Key × V)) : Prop :=
  Q0 T d l c v H ∧ v 3 = some (.ref m) ∧ Mo d l Hb m sd g kvs st gs n ∧ ButN d l Hb H ∧ Drw Hb d l c ∧ PatAt C (cut d l Hb) pm n st gs ∧ v 7 = some (.ref pm) ∧ v 11 = some (.ref lt) ∧ v 12 = some (.ref sm) ∧ v 13 = some (.ref pk) ∧
  Hb lt = none ∧ Hb sm = none ∧ (∃ kv, H lt = some (.dK kv) ∧ kv.length ≤ 4 ∧ (B ≤ 10 → kv = kvs2)) ∧ (∀ q ∈ kvs2, ∃ (t : Str) (b : Addr) (xs : List V), q = (.inr t, .ref b) ∧ Hb b = none ∧ H b = some (.lst xs) ∧ xs.length ≤ B) ∧ kvs2.length ≤ 3 ∧ (∃ xs, H sm = some (.lst xs) ∧ xs.length ≤ B) ∧ PatAt C (hole lt H) pk n st gs
def QK (C : Addr) (T : List (Addr × Str)) (d l c : Addr) (B : Nat) (v : Nat → Option V) (H : Hp) : Prop := ∃ m sd g kvs st gs n Hb pm lt sm pk kvs2, QKx C T d l c B v H m sd g kvs st gs n Hb pm lt sm pk kvs2
theorem st12 (L : LEnv P w K mg base T C CB CS) (hr : Room 8 (XL P w K mg base f c0 A outer s H0 E).A) : Hst (XL P w K mg base f c0 A outer s H0 E) (lawSt 12) (Q11 C T d l c) (QK C T d l c 4) := by
  have S := scLa
  obtain ⟨fI, fdI, GI, MK, bI, bIk⟩ := L.make
  have hr6 := hr.mono (show 6 ≤ 8 by decide)
  refine Hst.of (ps_set (i := 13) S.nd rfl (.inl rfl) (pe_make MK GI hr6 (by rfl) L.gC bI .nil (passes_call L2.takes0 fun _ _ _ _ h => h) (pa_cons (pv 11) (pa_cons (pv 12) pa_nil)))) ?_
  rintro Dn v H ⟨m, sd, g, kvs, st, gs, n, Hb, pm, lt, sm, kvs2, ⟨h1, D, hT⟩, h3, M, B, Db, hp7, h7, h11, h12, nlt, nsm, elt, sL, esm⟩ q
  have nd : gs.Nodup := M.pw.imp fun h => by omega
  have lg := M.len
  have few := M.ok.few
  have n4 := M.ok.n4
  refine ⟨_, congrArg some h11, _, congrArg some h12, fun x dx hx hdx ne => make_lin M.ok M.inT M.so elt sL.lin esm M.rng nd hx hdx ne fun hs H2 s2 ph pw hp => ⟨rfl, ?_⟩⟩
  obtain rfl := ints_one ph pw M.pw
  have B2 := B.trans (But.of (d := d) (l := l) s2).n
  have hmem : ∀ q ∈ kvs2, ∃ (t : Str) (b : Addr) (xs : List V), q = (.inr t, .ref b) ∧ Hb b = none ∧ H2 b = some (.lst xs) ∧ xs.length ≤ 4 := fun q hq => by
    obtain ⟨t, b, ns, e1, _, e3, e4, e5, _⟩ := sL.mem q hq
    exact ⟨t, b, _, e1, e3, s2 _ _ e4, by rw [List.length_map]; omega⟩
  have l2 : kvs2.length ≤ 3 := by
    have z := congrArg List.length sL.keys
    rw [List.length_map, List.length_map, List.length_map] at z
    omega
  refine q (put v 13 (.ref x)) H2 ⟨m, sd, g, kvs, st, hs, n, Hb, pm, lt, sm, x, kvs2, ⟨h1, D.same s2, hT.ext s2⟩, h3, M, B2, Db, hp7, h7, h11, h12, rfl, nlt, nsm, ⟨kvs2, s2 _ _ elt, by omega, fun _ => rfl⟩, hmem, l2, ⟨_, s2 _ _ esm, by rw [List.length_map]; omega⟩, pat_hole hp (s2 _ _ elt) (fun q hq => ?_) M.ok.ne⟩
  obtain ⟨t, b, xs, e1, _, e3, _⟩ := hmem q hq
  exact ⟨t, b, xs, e1, e3⟩
/-- one of the lists grows -/
theorem QKx.grow {B : Nat} {v : Nat → Option V} {H : Hp} {m sd g : Addr} {kvs : List (Key × V)} {st : List (Str × List Int)} {gs : List Int} {n : Nat} {Hb : Hp} {pm lt sm pk : Addr} {kvs2 : List (Key × V)} (h : QKx C T d l c B v H m sd g kvs st gs n Hb pm lt sm pk kvs2)
    {b : Addr} {xs : List V} {y : V} (nb : Hb b = none) (e : H b = some (.lst xs)) (le : xs.length ≤ B) (hB : B + 1 ≤ 10 ∨ 10 < B) {v' : Nat → Option V} (hv1 : v' 1 = v 1) (hv3 : v' 3 = v 3) (hv7 : v' 7 = v 7) (hv11 : v' 11 = v 11) (hv12 : v' 12 = v 12) (hv13 : v' 13 = v 13) : QKx C T d l c (B + 1) v' (upd H b (.lst (xs ++ [y]))) m sd g kvs st gs n Hb pm lt sm pk kvs2 := by
  obtain ⟨⟨h1, D, hT⟩, h3, M, BN, Db, hp7, h7, h11, h12, h13, nlt, nsm, ⟨kv, elt, lkv, hkv⟩, hmem, l2, ⟨zs, esm, lsm⟩, hpk⟩ := h
  have ow : ∀ {a o}, H a = some o → (∀ xs, o ≠ .lst xs) → (upd H b (.lst (xs ++ [y]))) a = some o := fun {a o} e2 n => by
    rw [upd_ne (fun z => by rw [z, e] at e2; exact n _ (Option.some.inj e2).symm)]
    exact e2
  have ol : ∀ {a us}, H a = some (.lst us) → us.length ≤ B → ∃ us', (upd H b (.lst (xs ++ [y]))) a = some (.lst us') ∧ us'.length ≤ B + 1 := fun {a us} e2 h => by
    by_cases z : a = b
    · subst z
      rw [e2] at e
      cases e
      exact ⟨_, upd_same, by rw [List.length_append]; exact Nat.succ_le_succ h⟩
    · exact ⟨us, by rw [upd_ne z]; exact e2, Nat.le_succ_of_le h⟩
  refine ⟨⟨hv1.trans h1, D.own Db nb, tabs_keep hT fun a o e n _ => ow e n⟩, hv3.trans h3, M, fun a o e2 z1 z2 z3 => ?_, Db, hp7, hv7.trans h7, hv11.trans h11, hv12.trans h12, hv13.trans h13, nlt, nsm, ⟨kv, ow elt (fun _ z => by cases z), lkv, fun z => hkv (by omega)⟩, fun q hq => ?_, l2, ol esm lsm, pat_nl hpk fun a o e2 _ n => ow e2 n⟩
  · rw [upd_ne (ne_of_none e2 nb)]
    exact BN a o e2 z1 z2 z3
  · obtain ⟨t, a, us, e1, e2, e3, e4⟩ := hmem q hq
    obtain ⟨us', f1, f2⟩ := ol e3 e4
    exact ⟨t, a, us', e1, e2, f1, f2⟩
theorem QKx.same {B : Nat} {v : Nat → Option V} {H H' : Hp} {m sd g : Addr} {kvs : List (Key × V)} {st : List (Str × List Int)} {gs : List Int} {n : Nat} {Hb : Hp} {pm lt sm pk : Addr} {kvs2 : List (Key × V)} (h : QKx C T d l c B v H m sd g kvs st gs n Hb pm lt sm pk kvs2) (s : Same H H') : QKx C T d l c B v H' m sd g kvs st gs n Hb pm lt sm pk kvs2 := by
  obtain ⟨⟨h1, D, hT⟩, h3, M, BN, Db, hp7, h7, h11, h12, h13, nlt, nsm, ⟨kv, elt, lkv, hkv⟩, hmem, l2, ⟨zs, esm, lsm⟩, hpk⟩ := h
  refine ⟨⟨h1, D.same s, hT.ext s⟩, h3, M, BN.trans (But.of s).n, Db, hp7, h7, h11, h12, h13, nlt, nsm, ⟨kv, s _ _ elt, lkv, hkv⟩, fun q hq => ?_, l2, ⟨zs, s _ _ esm, lsm⟩, hpk.same (hole_same s)⟩
  obtain ⟨t, a, us, e1, e2, e3, e4⟩ := hmem q hq
  exact ⟨t, a, us, e1, e2, s _ _ e3, e4⟩
theorem st13 (L : LEnv P w K mg base T C CB CS) (hr : Room 8 (XL P w K mg base f c0 A outer s H0 E).A) : Hst (XL P w K mg base f c0 A outer s H0 E) (lawSt 13) (QK C T d l c 4) (QK C T d l c 8) := by
  have S := scLa
  have hu := hu_of hr
  refine Hst.of (ps_for PassesOwn.never rfl (pi_list (pe_callTy (call_list_dK rfl) (by rfl) (L.fr "list" (by decide)) (by decide +kernel) (pa_cons (pv 11) pa_nil))) (pg_name (i := 10) S.nd rfl (.inl rfl))
    (pss_one (ps_expr (pe_bm PySem.F.plainAttrs_list PySem.F.slot_list_append PySem.F.type_list_append mt_append (pe_dget hu (pv 11) (pv 10) (fun _ _ => rfl)) (pa_cons pe_int pa_nil))))) ?_
  rintro Dn v H ⟨m, sd, g, kvs, st, gs, n, Hb, pm, lt, sm, pk, kvs2, hx⟩ q
  obtain ⟨⟨h1, D, hT⟩, h3, M, BN, Db, hp7, h7, h11, h12, h13, nlt, nsm, ⟨kv, elt, lkv, hkv⟩, hmem, l2, ⟨zs, esm, lsm⟩, hpk⟩ := id hx
  obtain rfl := hkv (by decide)
  refine ⟨_, congrArg some h11, lt, kv, rfl, elt, fun kl nkl => ⟨kl, rfl, ⟨_, SqL.of upd_same⟩, for_list (xs := kv.map fun kv => kV kv.1) (fun i σ H2 => ∃ v, σ = SL v ∧ QKx C T d l c (4 + i) v H2 m sd g kvs st gs n Hb pm lt sm pk kv ∧ H2 kl = some (.lst (kv.map fun kv => kV kv.1)) ∧ ∀ q ∈ kv, q.2 ≠ .ref kl)
    ⟨v, rfl, hx.same (same_new nkl), upd_same, fun q hq z => ?_⟩ (fun i σ H2 _ ⟨_, _, _, e, _⟩ => SqL.of e) ?_ ?_⟩⟩
  · obtain ⟨t, b, xs, e1, _, e3, _⟩ := hmem q hq
    rw [e1] at z
    cases z
    rw [nkl] at e3
    cases e3
  · rintro i x σ H2 hxi ⟨v, rfl, hx2, ekl, nkl2⟩
    obtain ⟨⟨g1, D2, hT2⟩, g3, M2, BN2, Db2, gp7, g7, g11, g12, g13, nlt, nsm, ⟨kv', elt2, lkv, hkv'⟩, hmem2, l2, ⟨zs, esm, lsm⟩, hpk⟩ := id hx2
    have hi : i < kv.length := by
      have z := (List.getElem?_eq_some_iff.mp hxi).1
      rw [List.length_map] at z
      exact z
    obtain rfl := hkv' (by omega)
    obtain ⟨p, hp, rfl⟩ : ∃ p ∈ kv', x = kV p.1 := by
      obtain ⟨p, hp, e⟩ := List.mem_map.mp (List.mem_of_getElem? hxi)
      exact ⟨p, hp, e.symm⟩
    obtain ⟨vb, hvb, mvb⟩ := valV_mem (kvs := kv') (k := p.1) (List.mem_map.mpr ⟨p, hp, rfl⟩)
    obtain ⟨t, b, xs, e1, nb, eb, lb⟩ := hmem2 _ mvb
    obtain ⟨e1a, e1b⟩ := Prod.mk.inj e1
    subst e1b
    refine ⟨_, congrArg some g11, _, rfl, lt, .ref b, rfl, hvb ▸ DGet.k (k := p.1) elt2, .inl ⟨rfl, _, SqL.of eb⟩, b, xs, .int 0, rfl, rfl, eb, small1000 (by omega), ?_⟩
    have nbk : kl ≠ b := fun z => nkl2 _ mvb (by rw [z])
    exact ⟨put v 10 (kV p.1), rfl, hx2.grow nb eb lb (.inl (by omega)) rfl rfl rfl rfl rfl rfl, by rw [upd_ne nbk]; exact ekl, nkl2⟩
  · rintro σ H2 ⟨v, rfl, hx2, _, _⟩
    rw [List.length_map] at hx2
    obtain ⟨h0, h3, M, BN, Db, hp7, h7, h11, h12, h13, nlt, nsm, ⟨kv', elt, lkv, hkv'⟩, hmem, l2, ⟨zs, esm, lsm⟩, hpk⟩ := hx2
    refine q v H2 ⟨m, sd, g, kvs, st, gs, n, Hb, pm, lt, sm, pk, kv, h0, h3, M, BN, Db, hp7, h7, h11, h12, h13, nlt, nsm, ⟨kv', elt, lkv, fun _ => hkv' (by omega)⟩, fun q hq => ?_, l2, ⟨zs, esm, by omega⟩, hpk⟩
    obtain ⟨t, a, us, e1, e2, e3, e4⟩ := hmem q hq
    exact ⟨t, a, us, e1, e2, e3, by omega⟩
end
end Kn
-- part Lb5
set_option maxHeartbeats 8000000
namespace Kn
open PySem PySem.Spec PyProof.Rows L2 Err LamX
theorem tabs_keepD {T : List (Addr × Str)} {H H' : Hp} (t : Tabs T H) (k : ∀ b o, H b = some o → (∀ kvs, o ≠ .dK kvs) → H' b = some o) : Tabs T H' := fun p hp => by
  obtain ⟨ps, h1, h2, h3⟩ := t p hp
  refine ⟨ps, k _ _ h1 (fun _ z => by cases z), h2, fun pos cv hc => ?_⟩
  obtain ⟨c0, e1, e2⟩ := h3 pos cv hc
  exact ⟨c0, e1, k _ _ e2 (fun _ z => by unfold CodeO at z; cases z)⟩
theorem QAt.bn {d l c : Addr} {H H' : Hp} {a C : Addr} {fs : List (Str × V)} (h : QAt H a C fs) (D : Drw H d l c) (B : ButN d l H H') : QAt H' a C fs := QAt.n h fun b o w n1 n2 n3 => by
  obtain ⟨⟨r, tt, hd⟩, ⟨ns, hl⟩, _, _⟩ := D
  exact B b o w (fun z => by rw [z, hd] at w; exact n3 _ (Option.some.inj w).symm) (fun z => by rw [z, hl] at w; exact n2 _ (Option.some.inj w).symm) n1
section
variable {P : Program} {w : World} {C CB : Addr} {K : PySem.W.Frag} {mg : Str → Option Value} {base : Heap} {T : List (Addr × Str)} {CS : Addr} {f c0 Pt : Addr} {A : Around} {outer : List Env} {s : Shared} {H0 : Hp} {E : XK} {d l c : Addr}
theorem st14 (L : LEnv P w K mg base T C CB CS) (hr : Room 8 (XL P w K mg base f c0 A outer s H0 E).A) : Hst (XL P w K mg base f c0 A outer s H0 E) (lawSt 14) (QK C T d l c 8) (QK C T d l c 11) := by
  have S := scLa
  have hu := hu_of hr
  refine Hst.of (ps_dput hu (pv 11) pe_str (pe_lst (pa_cons pe_int pa_nil)) rfl) ?_
  rintro Dn v H ⟨m, sd, g, kvs, st, gs, n, Hb, pm, lt, sm, pk, kvs2, hx⟩ q
  refine ⟨by show 1 ≤ sizeLine; decide, fun z nz => ?_⟩
  have hx2 := hx.same (same_new (o := .lst [.int 0]) nz)
  generalize upd H z (.lst [.int 0]) = H2 at hx2 ⊢
  obtain ⟨⟨h1, D, hT⟩, h3, M, BN, Db, hp7, h7, h11, h12, h13, nlt, nsm, ⟨kv, elt, lkv, hkv⟩, hmem, l2, ⟨zs, esm, lsm⟩, hpk⟩ := hx2
  obtain rfl := hkv (by decide)
  refine ⟨_, congrArg some h11, lt, _, rfl, DPut.k (k := .inr "zz") elt (small1000 (by omega)), ?_⟩
  have ow : ∀ {a o}, H2 a = some o → (∀ xs, o ≠ .dK xs) → (upd H2 lt (.dK (putK kv (.inr "zz") (.ref z)))) a = some o := fun {a o} e2 n => by
    rw [upd_ne (fun z => by rw [z, elt] at e2; exact n _ (Option.some.inj e2).symm)]
    exact e2
  refine q v _ ⟨m, sd, g, kvs, st, gs, n, Hb, pm, lt, sm, pk, kv, ⟨h1, D.own Db nlt, tabs_keepD hT fun b o e n => ow e n⟩, h3, M, fun a o e2 z1 z2 z3 => ?_, Db, hp7, h7, h11, h12, h13, nlt, nsm, ⟨_, upd_same, ?_, fun z => by omega⟩, fun q hq => ?_, l2, ⟨zs, ow esm (fun _ z => by cases z), by omega⟩, pat_nl hpk fun a o e2 n2 _ => by rw [upd_ne n2]; exact e2⟩
  · rw [upd_ne (ne_of_none e2 nlt)]
    exact BN a o e2 z1 z2 z3
  · have := length_putK kv (.inr "zz") (.ref z)
    omega
  · obtain ⟨t, a, us, e1, e2, e3, e4⟩ := hmem q hq
    exact ⟨t, a, us, e1, e2, ow e3 (fun _ z => by cases z), by omega⟩
def Q15 (C : Addr) (T : List (Addr × Str)) (d l c : Addr) (v : Nat → Option V) (H : Hp) : Prop := ∃ m sd g kvs st gs n, QM T d l c v H m sd g kvs st gs n ∧ ∃ pm pk, v 7 = some (.ref pm) ∧ v 13 = some (.ref pk) ∧ PatAt C (cut d l H) pm n st gs ∧ PatAt C (cut d l H) pk n st gs
theorem st15 (L : LEnv P w K mg base T C CB CS) (hr : Room 8 (XL P w K mg base f c0 A outer s H0 E).A) : Hst (XL P w K mg base f c0 A outer s H0 E) (lawSt 15) (QK C T d l c 11) (Q15 C T d l c) := by
  refine Hst.of (ps_expr (pe_bm PySem.F.plainAttrs_list PySem.F.slot_list_append PySem.F.type_list_append mt_append (pv 12) (pa_cons pe_int pa_nil))) ?_
  rintro Dn v H ⟨m, sd, g, kvs, st, gs, n, Hb, pm, lt, sm, pk, kvs2, hx⟩ q
  obtain ⟨zs, esm, lsm⟩ := hx.2.2.2.2.2.2.2.2.2.2.2.2.2.2.2.1
  have h12 := hx.2.2.2.2.2.2.2.2.1
  have nsm := hx.2.2.2.2.2.2.2.2.2.2.2.1
  refine ⟨_, congrArg some h12, .inl ⟨rfl, _, SqL.of esm⟩, sm, zs, .int 0, rfl, rfl, esm, small1000 (by omega), ?_⟩
  obtain ⟨⟨h1, D, hT⟩, h3, M, BN, Db, hp7, h7, h11, h12, h13, nlt, nsm, _, _, _, _, hpk⟩ := hx.grow (y := .int 0) nsm esm lsm (.inr (by decide)) (v' := v) rfl rfl rfl rfl rfl rfl
  exact q v _ ⟨m, sd, g, kvs, st, gs, n, ⟨⟨h1, D, hT⟩, h3, M.n BN⟩, pm, pk, h7, h13, hp7.same BN.cut, pat_cut D (hpk.same hole_le) M.ok.few⟩
def Q16 (C CB : Addr) (T : List (Addr × Str)) (d l c : Addr) (v : Nat → Option V) (H : Hp) : Prop := ∃ m sd g kvs st gs n, QM T d l c v H m sd g kvs st gs n ∧ ∃ pm pk a, v 7 = some (.ref pm) ∧ v 13 = some (.ref pk) ∧ v 6 = some (.ref a) ∧ PatAt C (cut d l H) pm n st gs ∧ PatAt C (cut d l H) pk n st gs ∧ QAt H a CB [("part", .str "steps")]
theorem st16 (L : LEnv P w K mg base T C CB CS) (hr : Room 8 (XL P w K mg base f c0 A outer s H0 E).A) (TB : TabB base mg c0 Pt) (hT1 : (Pt, ("law.<locals>." : Str) ++ "<lambda>") ∈ T) (hT2 : ∀ p ∈ T, p.1 = Pt → p.2 = ("law.<locals>." : Str) ++ "<lambda>") :
    Hst (XL P w K mg base f c0 A outer s H0 E) (lawSt 16) (Q15 C T d l c) (Q16 C CB T d l c) := by
  have S := scLa
  obtain ⟨fC, fdC, FC, bC, gC⟩ := L.caught
  obtain ⟨fI, fdI, GI, MK, bI, bIk⟩ := L.make
  obtain ⟨ocC, odC, kVC, docC, pmC, anC, cdC, ctC, oslC, rfl, lkC, hcC⟩ := FC.ex
  refine Hst.of (ps_set (i := 6) S.nd rfl (.inl rfl) (pe_lamcall (T := T) (TT := TCaught K CS) (k := 6) (by rfl) gC FC.kp lkC hcC bC scCa rfl (.inl rfl) (caught_gives L.gS) TB rfl hT1 hT2 hr (lamS_by (by show lamSB (defScope sLaw) _ = true; decide +kernel)) (by rfl) (fun _ _ _ _ _ => rfl)
    (fun A outer s H E f c' hrL => pe_make MK GI hrL (by rfl) L.gC bI .nil (passes_call (takes_of rfl rfl rfl rfl) fun _ _ _ _ h => h) (pa_cons (pe_disp (pps_cons pe_str (pe_lst (pa_cons pe_int pa_nil)) pps_nil) rfl rfl (by decide) (by decide)) (pa_cons (pe_lst (pa_cons pe_int pa_nil)) pa_nil))))) ?_
  rintro Dn v H ⟨m, sd, g, kvs, st, gs, n, ⟨⟨h1, D, hT⟩, h3, M⟩, pm, pk, h7, h13, hp7, hp13⟩ q
  refine ⟨hT, fun H1 eN T1 => fun dq ndq => ⟨by show 1 ≤ sizeLine; decide, fun l1 nl1 => ?_⟩⟩
  have s3 : Same (upd H1 dq (.dK [])) (upd (upd H1 dq (.dK [])) l1 (.lst [.int 9])) := same_new nl1
  have q3 : (upd (upd H1 dq (.dK [])) l1 (.lst [.int 9])) l1 = some (.lst [.int 9]) := upd_same
  have q3d : (upd (upd H1 dq (.dK [])) l1 (.lst [.int 9])) dq = some (.dK []) := s3 _ _ upd_same
  have u3 : Same H1 (upd (upd H1 dq (.dK [])) l1 (.lst [.int 9])) := (same_new ndq).trans s3
  generalize upd (upd H1 dq (.dK [])) l1 (.lst [.int 9]) = H3 at u3 q3 q3d ⊢
  refine ⟨q3d, [(.inr "a", .ref l1)], rfl, by show 1 ≤ 15; decide, ?_⟩
  have s4 : Same H1 (upd H3 dq (.dK (mergeK [] [(.inr "a", .ref l1)]))) := same_own ndq u3
  have q4 : (upd H3 dq (.dK (mergeK [] [(.inr "a", .ref l1)]))) dq = some (.dK [(.inr "a", .ref l1)]) := upd_same
  have q5 : (upd H3 dq (.dK (mergeK [] [(.inr "a", .ref l1)]))) l1 = some (.lst [.int 9]) := by
    rw [upd_ne (ne_of q3 q3d (by intro z; cases z))]
    exact q3
  generalize upd H3 dq (.dK (mergeK [] [(.inr "a", .ref l1)])) = H4 at s4 q4 q5 ⊢
  refine ⟨by show 1 ≤ sizeLine; decide, fun l2 nl2 => fun x dx hx hdx ne => ?_⟩
  have s5 : Same H4 (upd H4 l2 (.lst [.int 9])) := same_new nl2
  have q6 : (upd H4 l2 (.lst [.int 9])) l2 = some (.lst [.int 9]) := upd_same
  generalize upd H4 l2 (.lst [.int 9]) = H5 at s5 q6 hx hdx ⊢
  have no : movesW (.dct [(some (.inr "a"), .lst [.int 9])]) = false := by kernel_rfl
  have ints9 : IsAll H5 [.int 9] [.int 9] := .cons (.int 9) .nil
  refine make_right (u := .dct [(some (.inr "a"), .lst [.int 9])]) (ug := .lst [.int 9]) hx hdx ne (.dct (by show 1 ≤ 900; decide) ⟨[(.inr "a", .ref l1)], .inl (s5 _ _ q4), rfl⟩ (.cons ⟨by decide, by decide +kernel⟩ (.lst (by decide) (s5 _ _ q5) ints9) .nil))
    (fun a o u z y => by cases z; rw [s5 _ _ q4] at y; cases y) (fun a ks z y => by cases z; rw [s5 _ _ q4] at y; cases y; exact List.nodup_cons.mpr ⟨by simp, List.nodup_nil⟩) (.lst (by decide) q6 ints9) (tok_lst q6) (fun _ d2 H6 s6 nd2 => ⟨L.ex, fun a na => ?_⟩) (fun e => by rw [no] at e; cases e) (fun e => by rw [no] at e; cases e)
  have s7 : Same H1 (upd (upd H6 d2 (.xd [("part", .str "steps")])) a (exq a (.ref CB) (some d2))) := (((s4.trans s5).trans s6).trans (same_new nd2)).trans (same_new na)
  have qa : QAt (upd (upd H6 d2 (.xd [("part", .str "steps")])) a (exq a (.ref CB) (some d2))) a CB [("part", .str "steps")] := ⟨d2, upd_same, same_new na _ _ upd_same⟩
  have B7 : ButN d l H (upd (upd H6 d2 (.xd [("part", .str "steps")])) a (exq a (.ref CB) (some d2))) := (ButN.ext eN).trans (But.of s7).n
  exact q (put v 6 (.ref a)) _ ⟨m, sd, g, kvs, st, gs, n, ⟨⟨h1, (D.extN eN).same s7, T1.ext s7⟩, h3, M.n B7⟩, pm, pk, a, h7, h13, rfl, hp7.same B7.cut, hp13.same B7.cut, qa⟩
theorem st17 (L : LEnv P w K mg base T C CB CS) (hr : Room 8 (XL P w K mg base f c0 A outer s H0 E).A) : Hst (XL P w K mg base f c0 A outer s H0 E) (lawSt 17) (Q16 C CB T d l c) (Q10 C T d l c) := by
  obtain ⟨fR, fdR, GR, kR, bR, gR⟩ := L.right
  obtain ⟨fE, fdE, GE, bE, hE, iE⟩ := L.eq
  have hr7 := hr.mono (show 7 ≤ 8 by decide)
  have hr2 := hr.mono (show 2 ≤ 8 by decide)
  have neO := @op_neO (XL P w K mg base f c0 A outer s H0 E) CX0 C fE fdE _ _ E0 1 GE bE hE iE L.ne0 L.hm hr2 pass0
  refine Hst.of (ps_if (PW.pt (pw_or (pt_cmpR neO (pv 13) (pv 7) (nomark _)) (pw_or (pt_not (pt_val (pe_call GR hr7 (by rfl) gR kR bR .nil pass0 (pa_cons (pv 1) (pa_cons (pv 13) (pa_cons (pv 3) pa_nil)))))) (pw_or1 (pt_cmpR op_ne (pe_attq (pv 6)) pe_str (nomark _)))))) (pss_one (ps_ret pe_bl)) pss_nil) ?_
  rintro Dn v H ⟨m, sd, g, kvs, st, gs, n, ⟨⟨h1, D, hT⟩, h3, M⟩, pm, pk, a, h7, h13, h6, hp7, hp13, qa⟩ q
  have e7 := hp7.same cut_le
  have e13 := hp13.same cut_le
  obtain ⟨dx, ds, tg, kp, i1, i2, i3, i4⟩ := id e7.ex
  obtain ⟨dx8, ds8, tg8, kp8, j1, _, _, _⟩ := id e13.ex
  refine ⟨_, congrArg some h13, _, congrArg some h7, pk, dx8, _, .ref C, rfl, j1, .inl ⟨pm, dx, _, rfl, i1, rfl⟩, L.nf1, pk, n, st, gs, .ref pm, rfl, e13, .inr ⟨pm, gs, rfl, e7, M.ok.nd, _, rfl, _, rfl, ?_⟩⟩
  rw [decide_eq_true rfl]
  refine iteF ⟨_, congrArg some h1, _, congrArg some h13, _, congrArg some h3, ?_⟩
  dsimp only [tNil, List.append_nil]
  refine right_pre M D hT hp13 fun H1 D1 T1 B1 => ?_
  refine ⟨_, rfl, iteF ⟨_, congrArg some h6, a, CB, _, .str "steps", rfl, QAt.bn qa D B1, L.is, L.no, rfl, rfl, false, ?_, iteF ?_⟩⟩
  · show V.bl (!decide _) = _
    rw [decide_eq_true rfl]
    rfl
  · exact q v H1 ⟨m, sd, g, kvs, st, gs, n, ⟨⟨h1, D1, T1⟩, h3, M.n B1⟩, pm, h7, hp7.same B1.cut⟩
end
end Kn
-- part Rq
set_option maxHeartbeats 4000000
namespace Kn
open PySem PySem.Spec PyProof.Rows L2 Err Rp
/-! ### the data that are shown -/
def stD (st : List (Str × List Int)) : PyData := .dict (st.map fun p => (.str p.1, .tuple (p.2.map PyData.int)))
def allD (st : List (Str × List Int)) (gs : List Int) (n : Nat) : PyData := .list [stD st, .tuple (gs.map PyData.int), .int n, .tuple ((st.map (·.1)).map PyData.str)]
theorem int_facts : ∀ j : Fin 5, (PyData.int ((j.val : Nat) : Int)).showable = true ∧ (PyData.int ((j.val : Nat) : Int)).leavesShort 13 = true ∧ (PyData.int ((j.val : Nat) : Int)).weight ≤ 3 ∧ (PyData.int ((j.val : Nat) : Int)).depth ≤ 0 := by decide +kernel
theorem int_fact {k : Int} (h0 : 0 ≤ k) (h1 : k < 5) : (PyData.int k).showable = true ∧ (PyData.int k).leavesShort 13 = true ∧ (PyData.int k).weight ≤ 3 ∧ (PyData.int k).depth ≤ 0 := by
  have z := int_facts ⟨k.toNat, by omega⟩
  have e : ((k.toNat : Nat) : Int) = k := by omega
  rw [e] at z
  exact z
theorem str_fact {t : Str} (h : t ∈ TI) : (PyData.str t).showable = true ∧ (PyData.str t).leavesShort 13 = true ∧ (PyData.str t).weight ≤ 6 ∧ (PyData.str t).depth ≤ 0 := by
  have z : ∀ t ∈ TI, (PyData.str t).showable = true ∧ (PyData.str t).leavesShort 13 = true ∧ (PyData.str t).weight ≤ 6 ∧ (PyData.str t).depth ≤ 0 := by decide +kernel
  exact z t h
theorem all_facts {W0 : Nat} : ∀ xs : List PyData, (∀ x ∈ xs, x.showable = true ∧ x.leavesShort 13 = true ∧ x.weight ≤ W0 ∧ x.depth ≤ 5) → PyData.showableAll xs = true ∧ PyData.leavesShortAll 13 xs = true ∧ PyData.weightAll xs ≤ xs.length * (W0 + 1) ∧ PyData.depthAll xs ≤ 5
  | [], _ => ⟨rfl, rfl, Nat.zero_le _, Nat.zero_le _⟩
  | x :: xs, h => by
    obtain ⟨a1, a2, a3, a4⟩ := h x (List.mem_cons_self ..)
    obtain ⟨b1, b2, b3, b4⟩ := all_facts xs fun y hy => h y (List.mem_cons_of_mem _ hy)
    refine ⟨?_, ?_, ?_, ?_⟩
    · show (x.showable && PyData.showableAll xs) = true
      rw [a1, b1]; rfl
    · show (x.leavesShort 13 && PyData.leavesShortAll 13 xs) = true
      rw [a2, b2]; rfl
    · show x.weight + 1 + PyData.weightAll xs ≤ (xs.length + 1) * (W0 + 1)
      rw [Nat.succ_mul]
      omega
    · simp only [PyData.depthAll]
      omega
theorem ints_facts {gs : List Int} (h : ∀ k ∈ gs, 0 ≤ k ∧ k < 5) : (PyData.tuple (gs.map PyData.int)).showable = true ∧ (PyData.tuple (gs.map PyData.int)).leavesShort 13 = true ∧ (PyData.tuple (gs.map PyData.int)).weight ≤ gs.length * 4 ∧ (PyData.tuple (gs.map PyData.int)).depth ≤ 6 := by
  obtain ⟨a, b, c, e⟩ := all_facts (W0 := 3) (gs.map PyData.int) fun x hx => by
    obtain ⟨k, hk, rfl⟩ := List.mem_map.mp hx
    obtain ⟨z1, z2, z3, z4⟩ := int_fact (h k hk).1 (h k hk).2
    exact ⟨z1, z2, z3, by omega⟩
  rw [List.length_map] at c
  exact ⟨a, b, c, by simp only [PyData.depth]; omega⟩
theorem kv_facts {n : Nat} : ∀ (st : List (Str × List Int)), (∀ q ∈ st, q.1 ∈ TI ∧ q.2.length ≤ 4 ∧ ∀ k ∈ q.2, 0 ≤ k ∧ k < 5) → PyData.showableKv (st.map fun p => (PyData.str p.1, PyData.tuple (p.2.map PyData.int))) = true ∧ PyData.leavesShortKv 13 (st.map fun p => (PyData.str p.1, PyData.tuple (p.2.map PyData.int))) = true ∧
    PyData.weightKv (st.map fun p => (PyData.str p.1, PyData.tuple (p.2.map PyData.int))) ≤ st.length * 30 ∧ PyData.depthKv (st.map fun p => (PyData.str p.1, PyData.tuple (p.2.map PyData.int))) ≤ 6
  | [], _ => ⟨rfl, rfl, Nat.zero_le _, Nat.zero_le _⟩
  | q :: st, h => by
    obtain ⟨h1, h2, h3⟩ := h q (List.mem_cons_self ..)
    obtain ⟨s1, s2, s3, s4⟩ := str_fact h1
    obtain ⟨t1, t2, t3, t4⟩ := ints_facts h3
    obtain ⟨b1, b2, b3, b4⟩ := kv_facts (n := n) st fun y hy => h y (List.mem_cons_of_mem _ hy)
    rw [List.map_cons]
    refine ⟨?_, ?_, ?_, ?_⟩
    · simp only [PyData.showableKv, s1, t1, b1, Bool.and_self]
    · simp only [PyData.leavesShortKv, s2, t2, b2, Bool.and_self]
    · simp only [PyData.weightKv, List.length_cons]
      omega
    · simp only [PyData.depthKv]
      omega
theorem stD_ok {n : Nat} {st : List (Str × List Int)} (ok : PatOk n st) (inT : ∀ t ∈ st.map (·.1), t ∈ TI) : (stD st).showable = true ∧ (stD st).leavesShort 13 = true ∧ (stD st).weight ≤ 90 ∧ (stD st).depth ≤ 7 := by
  have n4 := ok.n4
  have few := ok.few
  obtain ⟨a, b, c, e⟩ := kv_facts (n := n) st fun q hq => by
    obtain ⟨r1, r2⟩ := ok.row q.1 q.2 (look_mem ok.nd hq)
    exact ⟨inT _ (List.mem_map.mpr ⟨q, hq, rfl⟩), by omega, fun k hk => by have := r2 k hk; omega⟩
  refine ⟨a, b, ?_, ?_⟩
  · show PyData.weightKv _ ≤ 90
    omega
  · simp only [stD, PyData.depth]
    omega
theorem show_ok {d : PyData} (h1 : d.showable = true) (h2 : d.leavesShort 13 = true) (h3 : d.weight ≤ 900) : d.shown.length ≤ sizeLine := PyData.shown_fits (by decide) (by decide) h2 (by omega)
theorem allD_ok {n : Nat} {st : List (Str × List Int)} {gs : List Int} (ok : PatOk n st) (inT : ∀ t ∈ st.map (·.1), t ∈ TI) (hg : ∀ k ∈ gs, 0 ≤ k ∧ k < (n : Int)) (lg : gs.length ≤ 4) : (allD st gs n).showable = true ∧ (allD st gs n).leavesShort 13 = true ∧ (allD st gs n).weight ≤ 900 ∧ (allD st gs n).depth ≤ 60 := by
  have n4 := ok.n4
  have few := ok.few
  obtain ⟨a1, a2, a3, a4⟩ := stD_ok ok inT
  obtain ⟨b1, b2, b3, b4⟩ := ints_facts (gs := gs) fun k hk => by have := hg k hk; omega
  obtain ⟨c1, c2, c3, c4⟩ := int_fact (k := (n : Int)) (by omega) (by omega)
  obtain ⟨e1, e2, e3, e4⟩ := all_facts (W0 := 6) ((st.map (·.1)).map PyData.str) fun x hx => by
    obtain ⟨t, ht, rfl⟩ := List.mem_map.mp hx
    obtain ⟨z1, z2, z3, z4⟩ := str_fact (inT t ht)
    exact ⟨z1, z2, z3, by omega⟩
  rw [List.length_map, List.length_map] at e3
  unfold allD
  refine ⟨?_, ?_, ?_, ?_⟩
  · simp only [PyData.showable, PyData.showableAll, Bool.and_true, Bool.and_eq_true]
    exact ⟨a1, b1, c1, e1⟩
  · simp only [PyData.leavesShort, PyData.leavesShortAll, Bool.and_true, Bool.and_eq_true]
    exact ⟨a2, b2, c2, e2⟩
  · have w2 : PyData.weightAll (gs.map PyData.int) ≤ gs.length * 4 := b3
    have w3 : (PyData.int (n : Int)).weight ≤ 3 := c3
    show (stD st).weight + 1 + (PyData.weightAll (gs.map PyData.int) + 1 + ((PyData.int (n : Int)).weight + 1 + (PyData.weightAll ((st.map (·.1)).map PyData.str) + 1 + 0))) ≤ 900
    omega
  · have d2 : (PyData.tuple (gs.map PyData.int)).depth ≤ 6 := b4
    simp only [PyData.depth, PyData.depthAll] at a4 d2 c4 e4 ⊢
    omega
/-! ### their reading -/
section
variable {K : PySem.W.Frag} {H : Hp}
theorem Sms.reads : ∀ {xs : List V} {ds : List PyData} {us : List Value} {h : Heap}, Sms xs ds → Vals xs us → ReadsAll h us ds []
  | _, _, _, _, .nil, .nil => .nil
  | _, _, _, _, .cons h t, .cons r rs => by
    cases h with
    | int i =>
      obtain ⟨tk, rfl⟩ := r
      exact ReadsAll.cons (.int _ _) (Sms.reads t rs)
    | str x hx =>
      obtain ⟨tk, rfl⟩ := r
      exact ReadsAll.cons (.str _ _) (Sms.reads t rs)
theorem ty_tup {a : Addr} {xs : List V} {ds : List PyData} (h : Rd H a (.tup xs)) (hs : Sms xs ds) : Ty K H (.ref a) (.tuple ds) := by
  rintro X pins σ s rfl I u ru
  obtain rfl : u = Value.ref a := ru
  obtain ⟨its, rv, ⟨o, ho, hc, n, hd⟩, _⟩ := I.tuple (.inl h)
  exact ⟨[], Reads.tuple ho hc hd (by simpa using hs.reads rv), by simp⟩
theorem ty_int (i : Int) : Ty K H (.int i) (.int i) := by
  rintro X pins σ s rfl I u ru
  obtain ⟨t, rfl⟩ := ru
  exact ⟨[], .int i t, by simp⟩
theorem ty_lst {l : Addr} {xs : List V} {ds : List PyData} (h : H l = some (.lst xs)) (hd : Paired (fun x d => Ty K H x d) xs ds) (hm : ∃ o, K.lookup sysModules = some o) : Ty K H (.ref l) (.list ds) := by
  rintro X pins σ s rfl I u ru
  obtain rfl : u = Value.ref l := ru
  obtain ⟨hz, its, m, rv, ho⟩ := I.hok _ _ h
  have all : ∀ {xs : List V} {ds : List PyData} (us : List Value), Paired (fun x d => Ty X.K H x d) xs ds → Vals xs us → ∃ as, ReadsAll s.heap us ds as ∧ sysModules ∉ as := by
    intro xs ds us p
    induction p generalizing us with
    | nil => intro r; cases r; exact ⟨[], .nil, by simp⟩
    | cons q _ ih =>
      intro r
      cases r with
      | cons r1 r2 =>
        obtain ⟨as, q1, z1⟩ := q X pins σ s rfl I _ r1
        obtain ⟨bs, q2, z2⟩ := ih _ r2
        exact ⟨as ++ bs, .cons q1 q2, fun y => by
          rcases List.mem_append.mp y with y | y
          · exact z1 y
          · exact z2 y⟩
  obtain ⟨as, q, z⟩ := all _ hd rv
  refine ⟨l :: as, Reads.list ho rfl rfl (by simpa using q), fun w => ?_⟩
  rcases List.mem_cons.mp w with w | w
  · obtain ⟨o, e⟩ := hm
    have z2 := (I.bs _ _ (I.ok.mod.kin _ _ e)).2
    rw [w, h] at z2
    cases z2
  · exact z w
theorem sms_ints : ∀ ns : List Int, Sms (ns.map V.int) (ns.map PyData.int)
  | [] => .nil
  | n :: ns => .cons (.int n) (sms_ints ns)
theorem sms_strs : ∀ ts : List Str, (∀ t ∈ ts, PyData.strOk t = true) → Sms (ts.map V.str) (ts.map PyData.str)
  | [], _ => .nil
  | t :: ts, h => .cons (.str t (h t (List.mem_cons_self ..))) (sms_strs ts fun u hu => h u (List.mem_cons_of_mem _ hu))
theorem LinT.ty {kq : List (Key × V)} {st : List (Str × List Int)} (h : LinT H kq st) : Paired (fun (kv : Key × V) d => Ty K H kv.2 d) kq (st.map fun p => PyData.tuple (p.2.map PyData.int)) ∧ (kq.map fun kv => kD kv.1).zip (st.map fun p => PyData.tuple (p.2.map PyData.int)) = st.map fun p => (PyData.str p.1, PyData.tuple (p.2.map PyData.int)) := by
  induction h with
  | nil => exact ⟨.nil, rfl⟩
  | cons h r ih => exact ⟨.cons (ty_tup h (sms_ints _)) ih.1, congrArg (_ :: ·) ih.2⟩
theorem ty_dct {a : Addr} {kq : List (Key × V)} {st : List (Str × List Int)} (e : H a = some (.dK kq)) (h : LinT H kq st) : Ty K H (.ref a) (stD st) := by
  obtain ⟨h1, h2⟩ := h.ty (K := K)
  have z := Ty.dK e h1
  rw [h2] at z
  exact z
theorem ty_all {l a tg tk : Addr} {kq : List (Key × V)} {st : List (Str × List Int)} {gs : List Int} {n : Nat} (el : H l = some (.lst [.ref a, .ref tg, .int n, .ref tk])) (e : H a = some (.dK kq)) (h : LinT H kq st) (eg : Rd H tg (.tup (gs.map V.int))) (ek : Rd H tk (.tup ((st.map (·.1)).map V.str))) (inT : ∀ t ∈ st.map (·.1), t ∈ TI) (hm : ∃ o, K.lookup sysModules = some o) : Ty K H (.ref l) (allD st gs n) :=
  ty_lst el (.cons (ty_dct e h) (.cons (ty_tup eg (sms_ints gs)) (.cons (ty_int _) (.cons (ty_tup ek (sms_strs _ fun t ht => (ti_all t (inT t ht)).2.2.1)) .nil)))) hm
end
end Kn
-- part Lb6
set_option maxHeartbeats 8000000
namespace Kn
open PySem PySem.Spec PyProof.Rows L2 Err LamX
section
variable {P : Program} {w : World} {C CB : Addr} {K : PySem.W.Frag} {mg : Str → Option Value} {base : Heap} {T : List (Addr × Str)} {CS : Addr} {f c0 Pt : Addr} {A : Around} {outer : List Env} {s : Shared} {H0 : Hp} {E : XK} {d l c : Addr}
theorem rd_cut {H : Hp} {a : Addr} {xs : List V} (D : Drw H d l c) (r : Rd H a (.tup xs)) : Rd (cut d l H) a (.tup xs) := by
  obtain ⟨⟨rr, tt, hd⟩, ⟨ns, hl⟩, _, _⟩ := D
  rcases r with r | ⟨o, r⟩
  · exact .inl (cut_at r (ne_of r hd (by intro z; cases z)) (ne_of r hl (by intro z; cases z)))
  · exact .inr ⟨o, cut_at r (ne_of r hd (by intro z; cases z)) (ne_of r hl (by intro z; cases z))⟩
theorem lin_cut {H : Hp} {kvs : List (Key × V)} {st : List (Str × List Int)} (D : Drw H d l c) (h : LinT H kvs st) : LinT (cut d l H) kvs st := by
  induction h with
  | nil => exact .nil
  | cons h r ih => exact .cons (rd_cut D h) ih
/-- a list of the four -/
def Four (H : Hp) (st : List (Str × List Int)) (gs : List Int) (n : Nat) (sl : Addr) : Prop := ∃ q tg tk kq, H sl = some (.lst [.ref q, .ref tg, .int n, .ref tk]) ∧ H q = some (.dK kq) ∧ LinT H kq st ∧ Rd H tg (.tup (gs.map V.int)) ∧ Rd H tk (.tup ((st.map (·.1)).map V.str))
theorem Four.same {H H' : Hp} {st : List (Str × List Int)} {gs : List Int} {n : Nat} {sl : Addr} (h : Four H st gs n sl) (s : Same H H') : Four H' st gs n sl := by
  obtain ⟨q, tg, tk, kq, h1, h2, h3, h4, h5⟩ := h
  exact ⟨q, tg, tk, kq, s _ _ h1, s _ _ h2, h3.same s, Rd.same h4 s, Rd.same h5 s⟩
def Q18 (C : Addr) (T : List (Addr × Str)) (d l c : Addr) (v : Nat → Option V) (H : Hp) : Prop := ∃ m sd g kvs st gs n, QM T d l c v H m sd g kvs st gs n ∧ ∃ pm sl, v 7 = some (.ref pm) ∧ PatAt C (cut d l H) pm n st gs ∧ v 14 = some (.ref sl) ∧ Four (cut d l H) st gs n sl
theorem st18 (L : LEnv P w K mg base T C CB CS) (hr : Room 8 (XL P w K mg base f c0 A outer s H0 E).A) : Hst (XL P w K mg base f c0 A outer s H0 E) (lawSt 18) (Q10 C T d l c) (Q18 C T d l c) := by
  have S := scLa
  obtain ⟨p1, f1, fd1, G1, pp1, b1⟩ := L.p1
  obtain ⟨p2, f2, fd2, G2, pp2, b2⟩ := L.p2
  obtain ⟨p3, f3, fd3, G3, pp3, b3⟩ := L.p3
  obtain ⟨p4, f4, fd4, G4, pp4, b4⟩ := L.p4
  have hr2 := hr.mono (show 2 ≤ 8 by decide)
  refine Hst.of (ps_set (i := 14) S.nd rfl (.inl rfl) (pe_lst (pa_cons (pe_prop (pv 7) L.tx.cl pp1 G1 hr2 b1 .nil pass0 rfl) (pa_cons (pe_prop (pv 7) L.tx.cl pp2 G2 hr2 b2 .nil pass0 rfl) (pa_cons (pe_prop (pv 7) L.tx.cl pp3 G3 hr2 b3 .nil pass0 rfl) (pa_cons (pe_prop (pv 7) L.tx.cl pp4 G4 hr2 b4 .nil pass0 rfl) pa_nil)))))) ?_
  rintro Dn v H ⟨m, sd, g, kvs, st, gs, n, ⟨⟨h1, D, hT⟩, h3, M⟩, pm, h7, hp7⟩ q
  have e7 := hp7.same cut_le
  obtain ⟨dx, ds, tg, kp, i1, i2, i3, i4⟩ := id e7.ex
  refine ⟨_, congrArg some h7, pm, dx, _, rfl, i1, pm, n, st, gs, rfl, e7, fun t1 kq nt1 lq => ?_⟩
  have s1 : Same H (upd H t1 (.dK kq)) := same_new nt1
  have q1 : (upd H t1 (.dK kq)) t1 = some (.dK kq) := upd_same
  generalize upd H t1 (.dK kq) = H1 at s1 q1 ⊢
  refine ⟨_, congrArg some h7, pm, dx, _, rfl, s1 _ _ i1, pm, n, st, gs, rfl, e7.same s1, fun tg2 rg => ?_⟩
  refine ⟨_, congrArg some h7, pm, dx, _, rfl, s1 _ _ i1, pm, n, st, gs, rfl, e7.same s1, ?_⟩
  refine ⟨_, congrArg some h7, pm, dx, _, rfl, s1 _ _ i1, pm, n, st, gs, rfl, e7.same s1, fun tk ntk => ⟨by show 4 ≤ sizeLine; decide, fun sl nsl => ?_⟩⟩
  have s2 : Same H1 (upd (upd H1 tk (.tup ((st.map (·.1)).map V.str))) sl (.lst [.ref t1, .ref tg2, .int n, .ref tk])) := (same_new ntk).trans (same_new nsl)
  have q2 : (upd (upd H1 tk (.tup ((st.map (·.1)).map V.str))) sl (.lst [.ref t1, .ref tg2, .int n, .ref tk])) tk = some (.tup ((st.map (·.1)).map V.str)) := same_new nsl _ _ upd_same
  have q3 : (upd (upd H1 tk (.tup ((st.map (·.1)).map V.str))) sl (.lst [.ref t1, .ref tg2, .int n, .ref tk])) sl = some (.lst [.ref t1, .ref tg2, .int n, .ref tk]) := upd_same
  have nslH := (s1.trans (same_new (o := .tup ((st.map (·.1)).map V.str)) ntk)).free nsl
  generalize upd (upd H1 tk (.tup ((st.map (·.1)).map V.str))) sl (.lst [.ref t1, .ref tg2, .int n, .ref tk]) = H2 at s2 q2 q3 ⊢
  have s3 := s1.trans s2
  have B3 := (But.of (d := d) (l := l) s3).n
  have D3 := D.same s3
  refine q (put v 14 (.ref sl)) H2 ⟨m, sd, g, kvs, st, gs, n, ⟨⟨h1, D3, hT.ext s3⟩, h3, M.n B3⟩, pm, sl, h7, hp7.same B3.cut, rfl, t1, tg2, tk, kq, cut_at q3 (D.off nslH).1 (D.off nslH).2, cut_at (s2 _ _ q1) (D.off nt1).1 (D.off nt1).2, lin_cut D3 (lq.same s3), rd_cut D3 (Rd.same rg s2), rd_cut D3 (.inl q2)⟩
def Q19 (C : Addr) (T : List (Addr × Str)) (d l c : Addr) (v : Nat → Option V) (H : Hp) : Prop := ∃ m sd g kvs st gs n, QM T d l c v H m sd g kvs st gs n ∧ ∃ pm sl od kvo, v 7 = some (.ref pm) ∧ PatAt C (cut d l H) pm n st gs ∧ v 14 = some (.ref sl) ∧ Four (cut d l H) st gs n sl ∧ v 15 = some (.ref od) ∧ cut d l H od = some (.dK kvo) ∧ LinT (cut d l H) kvo st
theorem st19 (L : LEnv P w K mg base T C CB CS) (hr : Room 8 (XL P w K mg base f c0 A outer s H0 E).A) : Hst (XL P w K mg base f c0 A outer s H0 E) (lawSt 19) (Q18 C T d l c) (Q19 C T d l c) := by
  have S := scLa
  have hu := hu_of hr
  have md := L.fr "dict" (by decide)
  have ms := L.fr "sorted" (by decide)
  have mt := L.fr "tuple" (by decide)
  refine Hst.of (ps_set (i := 15) S.nd rfl (.inl rfl) (pe_callTy (call_dictP rfl) (by rfl) md (by decide +kernel) (pa_cons (pe_lc (own := [("_law_key", 10)]) (g := gName 10) rfl S.nd (pi_list (pe_callB (call_sortedD rfl) (by rfl) ms (by decide +kernel) (pa_cons (pe_dget hu (pv 3) pe_str (fun _ _ => rfl)) pa_nil))) (blkOk_by (N := NLa) (sc := defScope sLaw) (by decide +kernel)) (fun _ _ _ _ _ => pg_name (i := 10) S.nd rfl (.inl rfl)) (fun _ _ _ _ _ => pts_nil)
      (fun _ _ _ _ _ => pe_tup (pa_cons (pv 10) (pa_cons (pe_callTy (show CallR _ (.type "tuple") (rTupA K) from call_tuple_of) (by rfl) mt (by decide +kernel) (pa_cons (pe_dget hu (pe_dget hu (pv 3) pe_str (fun _ _ => rfl)) (pv 10) (fun _ _ => rfl)) pa_nil)) pa_nil)))) pa_nil))) ?_
  rintro Dn v H ⟨m, sd, g, kvs, st, gs, n, ⟨⟨h1, D, hT⟩, h3, M⟩, pm, sl, h7, hp7, h14, h4⟩ q
  have M1 := M.at_.same cut_le
  have few := M.ok.few
  refine ⟨_, congrArg some h3, m, _, rfl, M1.steps, sd, kvs, st.map (·.1), rfl, .inl M1.ss, M1.lin.keys, by rw [List.length_map]; omega, fun ys so perm srt nso => ?_⟩
  obtain rfl : ys = st.map (·.1) := sorted_one perm srt M.so M.inT
  have s1 : Same H (upd H so (.lst ((st.map (·.1)).map V.str))) := same_new nso
  have q1 : (upd H so (.lst ((st.map (·.1)).map V.str))) so = some (.lst ((st.map (·.1)).map V.str)) := upd_same
  generalize upd H so (.lst ((st.map (·.1)).map V.str)) = H1 at s1 q1 ⊢
  refine ⟨so, rfl, ⟨_, SqL.of q1⟩, fun Dd nD => lc_list (K := K) (a := so) (xs := (st.map (·.1)).map V.str) (fun i H4 => Same H1 H4 ∧ ∃ ps kvo, H4 Dd = some (.lst (ps.map V.ref)) ∧ PairT H4 ps kvo ∧ LinT H4 kvo (st.take i) ∧ ps.length = i)
    ⟨same_new nD, [], [], upd_same, .nil, .nil, rfl⟩ (fun i H4 _ p => SqL.of (p.1 _ _ q1)) ?_ ?_⟩
  · rintro i x H3 hx ⟨s3, ps, kvo, hD3, hP3, lo, hl3⟩
    obtain ⟨⟨t, ns⟩, hp, rfl⟩ : ∃ p : Str × List Int, st[i]? = some p ∧ x = V.str p.1 := by
      rw [List.getElem?_map, List.getElem?_map] at hx
      obtain ⟨y, e1, e2⟩ := Option.map_eq_some_iff.mp hx
      obtain ⟨p, e3, e4⟩ := Option.map_eq_some_iff.mp e1
      exact ⟨p, e3, by rw [← e2, ← e4]⟩
    have hns : st.lookup t = some ns := look_mem M.ok.nd (List.mem_of_getElem? hp)
    obtain ⟨b, hval, hb⟩ := M1.lin.get hns
    have s3' := s1.trans s3
    have M3 := M1.same s3'
    refine ⟨rfl, ?_⟩
    dsimp only [tYes]
    rw [if_pos rfl]
    refine ⟨_, rfl, _, congrArg some h3, m, _, rfl, M3.steps, _, rfl, sd, .ref b, rfl, hval ▸ DGet.k (k := .inr t) M3.ss, b, _, rfl, .inl ⟨SqL.of (s3' _ _ hb), fun tp ntp => ⟨by show 2 ≤ sizeLine; decide, fun Tt nT => ?_⟩⟩⟩
    have s4 : Same H3 (upd (upd H3 tp (.tup (ns.map V.int))) Tt (.tup [V.str t, V.ref tp])) := (same_new ntp).trans (same_new nT)
    have e4 : (upd (upd H3 tp (.tup (ns.map V.int))) Tt (.tup [V.str t, V.ref tp])) tp = some (.tup (ns.map V.int)) := same_new nT _ _ upd_same
    have e5 : (upd (upd H3 tp (.tup (ns.map V.int))) Tt (.tup [V.str t, V.ref tp])) Tt = some (.tup [V.str t, V.ref tp]) := upd_same
    generalize upd (upd H3 tp (.tup (ns.map V.int))) Tt (.tup [V.str t, V.ref tp]) = H5 at s4 e4 e5 ⊢
    have hD5 := s4 _ _ hD3
    have hi := (List.getElem?_eq_some_iff.mp hp).1
    have ow : ∀ x o, H5 x = some o → (∀ xs, o ≠ .lst xs) → ∀ o2, (upd H5 Dd o2) x = some o := fun x o e n o2 => by
      rw [upd_ne (fun z => by rw [z, hD5] at e; exact n _ (Option.some.inj e).symm)]
      exact e
    refine ⟨_, hD5, by rw [List.length_map]; exact small1000 (by omega), same_own nD (s3.trans s4), ps ++ [Tt], kvo ++ [(.inr t, .ref tp)], by rw [upd_same, List.map_append]; rfl, ?_, ?_, by rw [List.length_append, hl3]; rfl⟩
    · refine Paired.snoc (Paired.mono (fun p kv e => ?_) (hP3.same s4)) ?_
      · exact ow _ _ e (fun _ z => by cases z) _
      · exact ow _ _ e5 (fun _ z => by cases z) _
    · have tk : st.take (i + 1) = st.take i ++ [(t, ns)] := by rw [List.take_add_one, hp]; rfl
      rw [tk]
      have lin : ∀ {kvs : List (Key × V)} {st : List (Str × List Int)}, LinT H5 kvs st → LinT (upd H5 Dd (.lst ((ps.map V.ref) ++ [V.ref Tt]))) kvs st := by
        intro kvs st h
        induction h with
        | nil => exact .nil
        | cons h r ih =>
          refine .cons ?_ ih
          rcases h with h | ⟨o, h⟩
          · exact .inl (ow _ _ h (fun _ z => by cases z) _)
          · exact .inr ⟨o, ow _ _ h (fun _ z => by cases z) _⟩
      exact LinT.snoc (lin (lo.same s4)) (.inl (ow _ _ e4 (fun _ z => by cases z) _))
  · rintro H5 ⟨s5, ps, kvo, hD5, hP5, lo, hl5⟩
    rw [List.length_map, List.length_map, List.take_length] at lo
    refine ⟨Dd, ps, kvo, rfl, SqL.of hD5, Paired.mono (fun p kv e => SqT.of e) hP5, fun od nod => ?_⟩
    have ndv : (kvo.map (·.1)).Nodup := by
      rw [lo.keys]
      exact List.Pairwise.map _ (fun a b h z => h (Sum.inr.inj z)) M.ok.nd
    rw [merge_new kvo [] (by simpa using ndv), List.nil_append]
    have s6 := (s1.trans s5).trans (same_new (o := .dK kvo) nod)
    have B6 := (But.of (d := d) (l := l) s6).n
    have D6 := D.same s6
    have nodH := (s1.trans s5).free nod
    refine q (put v 15 (.ref od)) _ ⟨m, sd, g, kvs, st, gs, n, ⟨⟨h1, D6, hT.ext s6⟩, h3, M.n B6⟩, pm, sl, od, kvo, h7, hp7.same B6.cut, h14, h4.same B6.cut, rfl, cut_at upd_same (D.off nodH).1 (D.off nodH).2, lin_cut D6 (lo.same (same_new nod))⟩
end
end Kn
-- part Lb7
set_option maxHeartbeats 8000000
namespace Kn
open PySem PySem.Spec PyProof.Rows L2 Err LamX
section
variable {P : Program} {w : World} {C CB : Addr} {K : PySem.W.Frag} {mg : Str → Option Value} {base : Heap} {T : List (Addr × Str)} {CS : Addr} {f c0 Pt : Addr} {A : Around} {outer : List Env} {s : Shared} {H0 : Hp} {E : XK} {d l c : Addr}
def Q20 (C : Addr) (T : List (Addr × Str)) (d l c : Addr) (v : Nat → Option V) (H : Hp) : Prop := ∃ m sd g kvs st gs n, QM T d l c v H m sd g kvs st gs n ∧ ∃ pm sl od kvo dl, v 7 = some (.ref pm) ∧ PatAt C (cut d l H) pm n st gs ∧ v 14 = some (.ref sl) ∧ Four (cut d l H) st gs n sl ∧ v 15 = some (.ref od) ∧ cut d l H od = some (.dK kvo) ∧ LinT (cut d l H) kvo st ∧ v 5 = some (.ref dl) ∧ Four (cut d l H) st gs n dl
theorem st20 (L : LEnv P w K mg base T C CB CS) (hr : Room 8 (XL P w K mg base f c0 A outer s H0 E).A) : Hst (XL P w K mg base f c0 A outer s H0 E) (lawSt 20) (Q19 C T d l c) (Q20 C T d l c) := by
  have S := scLa
  have hu := hu_of hr
  have ms := L.fr "sorted" (by decide)
  have mt := L.fr "tuple" (by decide)
  have ml := L.fr "len" (by decide)
  refine Hst.of (ps_set (i := 5) S.nd rfl (.inl rfl) (pe_lst (pa_cons (pv 15) (pa_cons (pe_callTy call_tuple_of (by rfl) mt (by decide +kernel) (pa_cons (pe_dget hu (pv 3) pe_str (fun _ _ => rfl)) pa_nil))
    (pa_cons (pe_callB call_len_seq (by rfl) ml PySem.boot_len (pa_cons (pe_dget hu (pe_dget hu (pv 3) pe_str (fun _ _ => rfl)) (pe_ix ix_list (pe_callB (call_sortedD rfl) (by rfl) ms (by decide +kernel) (pa_cons (pv 15) pa_nil)) pe_int (fun _ _ => rfl)) (fun _ _ => rfl)) pa_nil))
    (pa_cons (pe_callTy call_tuple_of (by rfl) mt (by decide +kernel) (pa_cons (pe_callB (call_sortedD rfl) (by rfl) ms (by decide +kernel) (pa_cons (pv 15) pa_nil)) pa_nil)) pa_nil)))))) ?_
  rintro Dn v H ⟨m, sd, g, kvs, st, gs, n, ⟨⟨h1, D, hT⟩, h3, M⟩, pm, sl, od, kvo, h7, hp7, h14, h4, h15, eo, lo⟩ q
  have M1 := M.at_.same cut_le
  have few := M.ok.few
  have eo1 := cut_le _ _ eo
  have lenN : (st.map (·.1)).length < 64 := by rw [List.length_map]; omega
  refine ⟨_, congrArg some h15, _, congrArg some h3, m, _, rfl, M1.good, g, _, rfl, .inl ⟨SqL.of M1.gg, fun tg2 ntg => ?_⟩⟩
  have s1 : Same H (upd H tg2 (.tup (gs.map V.int))) := same_new ntg
  have q1 : (upd H tg2 (.tup (gs.map V.int))) tg2 = some (.tup (gs.map V.int)) := upd_same
  generalize upd H tg2 (.tup (gs.map V.int)) = H1 at s1 q1 ⊢
  have M2 := M1.same s1
  refine ⟨_, congrArg some h3, m, _, rfl, M2.steps, _, congrArg some h15, od, kvo, st.map (·.1), rfl, .inl (s1 _ _ eo1), lo.keys, lenN, fun ys so perm srt nso => ?_⟩
  obtain rfl : ys = st.map (·.1) := sorted_one perm srt M.so M.inT
  obtain ⟨⟨t0, ns0⟩, st', est⟩ : ∃ p st', st = p :: st' := by
    cases e : st with
    | nil => exact absurd e M.ok.ne
    | cons p st' => exact ⟨p, st', rfl⟩
  have hns : st.lookup t0 = some ns0 := look_mem M.ok.nd (by rw [est]; exact List.mem_cons_self ..)
  obtain ⟨b, hval, hb⟩ := M1.lin.get hns
  have hlen := (M.ok.row t0 ns0 hns).1
  have s2 : Same H1 (upd H1 so (.lst ((st.map (·.1)).map V.str))) := same_new nso
  have q2 : (upd H1 so (.lst ((st.map (·.1)).map V.str))) so = some (.lst ((st.map (·.1)).map V.str)) := upd_same
  generalize upd H1 so (.lst ((st.map (·.1)).map V.str)) = H2 at s2 q2 ⊢
  have t2 := s1.trans s2
  have h0 : ((st.map (·.1)).map V.str)[0]? = some (V.str t0) := by rw [est]; rfl
  refine ⟨so, _, 0, _, rfl, rfl, SqL.of q2, at_of (j := 0) rfl h0, sd, .ref b, rfl, hval ▸ DGet.k (k := .inr t0) (M1.same t2).ss, b, _, rfl, .inl (SqL.of (t2 _ _ hb)), ?_⟩
  rw [List.length_map, hlen]
  refine ⟨_, congrArg some h15, od, kvo, st.map (·.1), rfl, .inl (t2 _ _ eo1), lo.keys, lenN, fun ys so2 perm2 srt2 nso2 => ?_⟩
  obtain rfl : ys = st.map (·.1) := sorted_one perm2 srt2 M.so M.inT
  refine ⟨so2, _, rfl, .inl ⟨SqL.of upd_same, fun tk ntk => ⟨by show 4 ≤ sizeLine; decide, fun dl ndl => ?_⟩⟩⟩
  have s3 : Same H2 (upd H2 so2 (.lst ((st.map (·.1)).map V.str))) := same_new nso2
  generalize upd H2 so2 (.lst ((st.map (·.1)).map V.str)) = H3 at s3 ntk ndl ⊢
  have s4 : Same H3 (upd (upd H3 tk (.tup ((st.map (·.1)).map V.str))) dl (.lst [.ref od, .ref tg2, .int n, .ref tk])) := (same_new ntk).trans (same_new ndl)
  have q4 : (upd (upd H3 tk (.tup ((st.map (·.1)).map V.str))) dl (.lst [.ref od, .ref tg2, .int n, .ref tk])) tk = some (.tup ((st.map (·.1)).map V.str)) := same_new ndl _ _ upd_same
  have q5 : (upd (upd H3 tk (.tup ((st.map (·.1)).map V.str))) dl (.lst [.ref od, .ref tg2, .int n, .ref tk])) dl = some (.lst [.ref od, .ref tg2, .int n, .ref tk]) := upd_same
  have ndlH := ((t2.trans s3).trans (same_new (o := .tup ((st.map (·.1)).map V.str)) ntk)).free ndl
  generalize upd (upd H3 tk (.tup ((st.map (·.1)).map V.str))) dl (.lst [.ref od, .ref tg2, .int n, .ref tk]) = H4 at s4 q4 q5 ⊢
  have s5 := (t2.trans s3).trans s4
  have B5 := (But.of (d := d) (l := l) s5).n
  have D5 := D.same s5
  exact q (put v 5 (.ref dl)) H4 ⟨m, sd, g, kvs, st, gs, n, ⟨⟨h1, D5, hT.ext s5⟩, h3, M.n B5⟩, pm, sl, od, kvo, dl, h7, hp7.same B5.cut, h14, h4.same B5.cut, h15, B5.cut _ _ eo, lo.same B5.cut, rfl,
    od, tg2, tk, kvo, cut_at q5 (D.off ndlH).1 (D.off ndlH).2, B5.cut _ _ eo, lo.same B5.cut, rd_cut D5 (.inl ((s2.trans (s3.trans s4)) _ _ q1)), rd_cut D5 (.inl q4)⟩
theorem st21 (L : LEnv P w K mg base T C CB CS) (hr : Room 8 (XL P w K mg base f c0 A outer s H0 E).A) : Hst (XL P w K mg base f c0 A outer s H0 E) (lawSt 21) (Q20 C T d l c) (Q20 C T d l c) := by
  obtain ⟨p1, f1, fd1, G1, pp1, b1⟩ := L.p1
  have hr2 := hr.mono (show 2 ≤ 8 by decide)
  refine Hst.of (ps_expr (pe_dclear (pe_prop (pv 7) L.tx.cl pp1 G1 hr2 b1 .nil pass0 rfl))) ?_
  rintro Dn v H ⟨m, sd, g, kvs, st, gs, n, ⟨⟨h1, D, hT⟩, h3, M⟩, pm, sl, od, kvo, dl, h7, hp7, h14, h4, h15, eo, lo, h5, f5⟩ q
  have e7 := hp7.same cut_le
  obtain ⟨dx, ds, tg, kp, i1, i2, i3, i4⟩ := id e7.ex
  refine ⟨_, congrArg some h7, pm, dx, _, rfl, i1, pm, n, st, gs, rfl, e7, fun t kq nt lq => ⟨.inr (.inr (.inl ⟨rfl, .inl ⟨kq, upd_same⟩⟩)), t, kq, rfl, rfl, upd_same, ?_⟩⟩
  have s1 : Same H (upd (upd H t (.dK kq)) t (.dK [])) := same_own nt (same_new nt)
  have B1 := (But.of (d := d) (l := l) s1).n
  exact q v _ ⟨m, sd, g, kvs, st, gs, n, ⟨⟨h1, D.same s1, hT.ext s1⟩, h3, M.n B1⟩, pm, sl, od, kvo, dl, h7, hp7.same B1.cut, h14, h4.same B1.cut, h15, B1.cut _ _ eo, lo.same B1.cut, h5, f5.same B1.cut⟩
theorem st22 (L : LEnv P w K mg base T C CB CS) (hr : Room 8 (XL P w K mg base f c0 A outer s H0 E).A) (hg : A.guards = some []) (hm : ∃ o, K.lookup sysModules = some o) : Hst (XL P w K mg base f c0 A outer s H0 E) (lawSt 22) (Q20 C T d l c) (Q0 T d l c) := by
  obtain ⟨p1, f1, fd1, G1, pp1, b1⟩ := L.p1
  have hr2 := hr.mono (show 2 ≤ 8 by decide)
  have mr := L.fr "repr" (by decide)
  have rp : CallR (XL P w K mg base f c0 A outer s H0 E) (.builtin "repr") (Rp.rRp K) := Rp.call_rp hg hr.units
  refine Hst.of (ps_if (PW.pt (pw_or (pt_cmpR op_ne (pe_callB rp (by rfl) mr PyProof.Rows.boot_repr (pa_cons (pv 14) pa_nil)) (pe_callB rp (by rfl) mr PyProof.Rows.boot_repr (pa_cons (pv 5) pa_nil)) (nomark _))
    (pw_or1 (pt_cmpR op_ne (pe_callB rp (by rfl) mr PyProof.Rows.boot_repr (pa_cons (pe_prop (pv 7) L.tx.cl pp1 G1 hr2 b1 .nil pass0 rfl) pa_nil)) (pe_callB rp (by rfl) mr PyProof.Rows.boot_repr (pa_cons (pv 15) pa_nil)) (nomark _))))) (pss_one (ps_ret pe_bl)) pss_nil) ?_
  rintro Dn v H ⟨m, sd, g, kvs, st, gs, n, ⟨⟨h1, D, hT⟩, h3, M⟩, pm, sl, od, kvo, dl, h7, hp7, h14, f4, h15, eo, lo, h5, f5⟩ q
  obtain ⟨a1, a2, a3, a4⟩ := allD_ok M.ok M.inT M.rng M.len
  obtain ⟨b1', b2', b3', b4'⟩ := stD_ok M.ok M.inT
  have four : ∀ {x : Addr}, Four (cut d l H) st gs n x → Rp.Tx K H (.ref x) (allD st gs n) := fun {x} h => by
    obtain ⟨q, tg, tk, kq, z1, z2, z3, z4, z5⟩ := h.same (cut_le (d := d) (l := l))
    exact (ty_all z1 z2 z3 z4 z5 M.inT hm).tx
  have e7 := hp7.same cut_le
  obtain ⟨dx, ds, tg, kp, i1, i2, i3, i4⟩ := id e7.ex
  refine ⟨_, congrArg some h14, .ref sl, _, rfl, four f4, a1, a4, show_ok a1 a2 a3, _, congrArg some h5, .ref dl, _, rfl, four f5, a1, a4, show_ok a1 a2 a3, rfl, false, ?_, iteF ?_⟩
  · show V.bl (!decide _) = _
    rw [decide_eq_true rfl]
    rfl
  · refine ⟨_, congrArg some h7, pm, dx, _, rfl, i1, pm, n, st, gs, rfl, e7, fun t kq nt lq => ?_⟩
    have s1 : Same H (upd H t (.dK kq)) := same_new nt
    have q1 : (upd H t (.dK kq)) t = some (.dK kq) := upd_same
    generalize upd H t (.dK kq) = H1 at s1 q1 ⊢
    refine ⟨.ref t, _, rfl, (ty_dct q1 (lq.same s1)).tx, b1', by omega, show_ok b1' b2' (by omega), _, congrArg some h15, .ref od, _, rfl, (ty_dct (s1 _ _ (cut_le _ _ eo)) ((lo.same cut_le).same s1)).tx, b1', by omega, show_ok b1' b2' (by omega), rfl, false, ?_, iteF ?_⟩
    · show V.bl (!decide _) = _
      rw [decide_eq_true rfl]
      rfl
    · exact q v H1 ⟨h1, D.same s1, hT.ext s1⟩
end
end Kn
-- part Ll
set_option maxHeartbeats 8000000
namespace Kn
open PySem PySem.Spec PyProof.Rows L2 Err LamX
def spLaw (K : PySem.W.Frag) (T : List (Addr × Str)) : Sp := fun vs H Q _ => ∃ (a : Addr) (ns : List Int), vs = [.ref a] ∧ SqL K H a (ns.map V.int) ∧ ns.length ≤ 63 ∧ Tabs T H ∧ ∀ H', Q (.bl true) H'
theorem sql_same {K : PySem.W.Frag} {H H' : Hp} {a : Addr} {xs : List V} (h : SqL K H a xs) (s : Same H H') : SqL K H' a xs := by
  rcases h with h | h
  · exact .inl (Rd.same h s)
  · exact .inr h
section
variable {P : Program} {w : World} {C CB : Addr} {K : PySem.W.Frag} {mg : Str → Option Value} {base : Heap} {T : List (Addr × Str)} {CS : Addr} {f c0 Pt : Addr}
theorem body_ok {A : Around} {outer : List Env} {s : Shared} {H0 : Hp} {E : XK} {d l c : Addr} (L : LEnv P w K mg base T C CB CS) (hr : Room 8 (XL P w K mg base f c0 A outer s H0 E).A) (TB : TabB base mg c0 Pt) (hT1 : (Pt, ("law.<locals>." : Str) ++ "<lambda>") ∈ T) (hT2 : ∀ p ∈ T, p.1 = Pt → p.2 = ("law.<locals>." : Str) ++ "<lambda>")
    (hg : A.guards = some []) (hm : ∃ o, K.lookup sysModules = some o) :
    Hss (XL P w K mg base f c0 A outer s H0 E) [lawSt 0, lawSt 1, lawSt 2, lawSt 3, lawSt 4, lawSt 5, lawSt 6, lawSt 7, lawSt 8, lawSt 9, lawSt 10, lawSt 11, lawSt 12, lawSt 13, lawSt 14, lawSt 15, lawSt 16, lawSt 17, lawSt 18, lawSt 19, lawSt 20, lawSt 21, lawSt 22] (Q0 T d l c) (Q0 T d l c) :=
  Hss.cons (st0 L hr) (Hss.cons (st1 L hr) (Hss.cons (st2 L hr) (Hss.cons (st3 L hr) (Hss.cons (st4 L hr TB hT1 hT2) (Hss.cons (st5 L hr) (Hss.cons (st6 L hr) (Hss.cons (st7 L hr) (Hss.cons (st8 L hr) (Hss.cons (st9 L hr) (Hss.cons (st10 L hr) (Hss.cons (st11 L hr) (Hss.cons (st12 L hr)
    (Hss.cons (st13 L hr) (Hss.cons (st14 L hr) (Hss.cons (st15 L hr) (Hss.cons (st16 L hr TB hT1 hT2) (Hss.cons (st17 L hr) (Hss.cons (st18 L hr) (Hss.cons (st19 L hr) (Hss.cons (st20 L hr) (Hss.cons (st21 L hr) (Hss.one (st22 L hr hg hm)))))))))))))))))))))))
def tBody (T : List (Addr × Str)) : TS := fun D σ H => ∃ d l c v, σ = SL v ∧ Q0 T d l c v H ∧ ∀ v' H', Q0 T d l c v' H' → D.nx (SL v') H'
theorem body_all {A : Around} {outer : List Env} {s : Shared} {H0 : Hp} {E : XK} (L : LEnv P w K mg base T C CB CS) (hr : Room 8 (XL P w K mg base f c0 A outer s H0 E).A) (TB : TabB base mg c0 Pt) (hT1 : (Pt, ("law.<locals>." : Str) ++ "<lambda>") ∈ T) (hT2 : ∀ p ∈ T, p.1 = Pt → p.2 = ("law.<locals>." : Str) ++ "<lambda>")
    (hg : A.guards = some []) (hm : ∃ o, K.lookup sysModules = some o) :
    PSs (XL P w K mg base f c0 A outer s H0 E) [lawSt 0, lawSt 1, lawSt 2, lawSt 3, lawSt 4, lawSt 5, lawSt 6, lawSt 7, lawSt 8, lawSt 9, lawSt 10, lawSt 11, lawSt 12, lawSt 13, lawSt 14, lawSt 15, lawSt 16, lawSt 17, lawSt 18, lawSt 19, lawSt 20, lawSt 21, lawSt 22] (tBody T) :=
  ⟨fun pins s σ H D I ⟨d, l, c, v, e, p, q⟩ => (body_ok (d := d) (l := l) (c := c) L hr TB hT1 hT2 hg hm).run pins s σ H D I ⟨v, e, p, q⟩⟩
theorem ok_law {fd : FuncData} (F : FunC K "law" "law" sLaw f fd c0) (L : LEnv P w K mg base T C CB CS) (TB : TabB base mg c0 Pt) (hT1 : (Pt, ("law.<locals>." : Str) ++ "<lambda>") ∈ T) (hT2 : ∀ p ∈ T, p.1 = Pt → p.2 = ("law.<locals>." : Str) ++ "<lambda>") (hm : ∃ o, K.lookup sysModules = some o) :
    Gd.FnOkG P w K mg base CX0 9 f fd ["_law_script"] (spLaw K T) := by
  have S := scLa
  obtain ⟨oc, od, kV, doc, pm, an, ct, osl, rfl, lk, hcd⟩ := F.ex
  obtain ⟨fB, fdB, GB, kB, bB, gB⟩ := L.begun
  refine Gd.okG_of lk hcd S (fun vs H Q E h => ?_) fun A outer s H vs Q E hr hg h => ?_
  · obtain ⟨a, ns, rfl, _⟩ := h
    rfl
  · obtain ⟨a, ns, rfl, hS, hn, hT, q⟩ := h
    have hr1 := hr.mono (show 1 ≤ 8 by decide)
    suffices z : ∃ t, PSs (XL P w K mg base f c0 A outer s H E) (defBody sLaw) t ∧ t { nx := fun _ H' => Q .non H', rt := Q } (start NLa [.ref a]) H by
      obtain ⟨t, h1, h2⟩ := z
      exact ⟨t, h1.nox, h2⟩
    refine ⟨_, pss_cons (ps_set (i := 1) S.nd rfl (.inl rfl) (pe_call GB hr1 (by rfl) gB kB bB .nil pass0 (pa_cons (pv 0) pa_nil)))
      (pss_cons (ps_for PassesOwn.never rfl (pi_range1 (by rfl) (L.fr "range" (by decide)) (pa_cons (pe_callB (call_max2 rfl) (by rfl) (L.fr "max" (by decide)) (by decide +kernel) (pa_cons pe_int (pa_cons (pe_callB (call_min2 rfl) (by rfl) (L.fr "min" (by decide)) (by decide +kernel) (pa_cons pe_int (pa_cons (pe_callB call_len_seq (by rfl) (L.fr "len" (by decide)) PySem.boot_len (pa_cons (pv 0) pa_nil)) pa_nil))) pa_nil))) pa_nil)) (pg_name (i := 2) S.nd rfl (.inl rfl))
          (body_all L hr TB hT1 hT2 hg hm)) (pss_one (ps_ret pe_bl))), ?_⟩
    refine ⟨_, rfl, a, ns, rfl, hS, hn, fun d l c H1 s1 nd nl nc D => ?_⟩
    have hS1 := sql_same hS s1
    refine ⟨_, rfl, a, _, rfl, .inl hS1, 8, _, rfl, 2, _, rfl, _, rfl, ?_, ?_, for_range (fun i σ H2 => ∃ v, σ = SL v ∧ Q0 T d l c v H2)
      ⟨fun i => if i = 0 then some (.ref a) else if i = 1 then some (.ref d) else none, rfl, rfl, D, hT.ext s1⟩ ?_ ?_⟩
    · rw [List.length_map]
      split <;> (try split) <;> omega
    · rw [List.length_map]
      split <;> (try split) <;> omega
    · rintro i σ H2 hi ⟨v, rfl, z⟩
      exact ⟨d, l, c, put v 2 (.int (0 + (i : Int))), rfl, z, fun v' H' z' => ⟨v', rfl, z'⟩⟩
    · rintro σ H2 ⟨v, rfl, z⟩
      exact q H2
end
end Kn
-- part GdE
set_option maxHeartbeats 4000000
/-! The end of a law whose defs make lambdas: the script and the empty tables of code objects are what is tracked. -/
namespace Gd
open PySem PySem.Spec PyProof.Rows L2 LamX
abbrev noTab : Obj := { cls := .none, data := .fields #[] }
/-- the script's list as it stands -/
def lstH (a : Addr) (vs : List Value) (ns : List Int) : Hp := fun b => if b = a then some (.frz { cls := .type "list", data := .seq vs.toArray } (.lst (ns.map V.int))) else none
/-- the same with the tables put in -/
def withT (cs : List (Addr × Addr)) (H : Hp) : Hp := fun b => if b ∈ cs.map (·.2) then some (.tbl #[]) else H b
section
variable {P : Program} {w : World} {K : PySem.W.Frag} {mg mb : Str → Option Value} {k : Nat} {fa a : Addr} {fd : FuncData} {x : Str} {sp : Sp} {s : Shared} {vs : List Value} {ns : List Int} {H : Hp} {cs : List (Addr × Addr)}
theorem from_heapT (kin : K.In s.heap) (gl : s.heap.Ns mainGlobals mg) (bl : s.heap.Ns builtinsNs mb) (bb : ∀ x : Str, x ≠ "__name__" → mb x = bootBuiltins x) (nl : s.heap.NoLimit) (ng : s.gens = #[])
    (bmn : ∃ (bm : Addr) (ob : Obj), mg "__builtins__" = some (.ref bm) ∧ bm ≠ builtinsNs ∧ s.heap.get? bm = some ob ∧ ob.cls = .type "module" ∧ ob.dict = some builtinsNs ∧ ob.data = .plain)
    (Cd : ∀ p ∈ cs, PySem.W.codeHdIn K p.1 p.2 = true) (Nt : ∀ p ∈ cs, s.heap.get? p.2 = some noTab) (Nk : ∀ p ∈ cs, K.lookup p.2 = none)
    (ho : s.heap.get? a = some { cls := .type "list", data := .seq vs.toArray }) (hr : Room k callerA)
    (F : ∀ base : Heap, K.In base → base.Ns mainGlobals mg → (∀ p ∈ cs, TabB base mg p.1 p.2) → FnOkG P w K mg base CX0 k fa fd [x] sp) (bind : ∀ (s : Shared) (u : Value), BindsTo s fd ⟨[u], []⟩ [(x, u)])
    (hO : Only H) (hok : HOk P w (withT cs H) s.heap) (hA : ∀ b, H b ≠ none → b = a) (hK : H a ≠ none → K.lookup a = none) (hs : sp [.ref a] (withT cs H) (fun v _ => v = .bl true) fun _ _ _ => False) :
    codeAny (model P w) callerA (.call (.ref fa) ⟨[.ref a], []⟩) (fun r s' => r = .ok (.ret (.bool true)) ∧ OldK s.heap s'.heap ∧ s'.os = s.os ∧ AllBare s'.gens) s := by
  have tabO : ∀ {b : Addr}, b ∈ cs.map (·.2) → s.heap.get? b = some noTab := fun {b} z => by
    obtain ⟨p, hp, e⟩ := List.mem_map.mp z
    subst e
    exact Nt p hp
  have inT : ∀ {b : Addr}, b ∈ cs.map (·.2) → withT cs H b = some (.tbl #[]) := fun z => if_pos z
  have offT : ∀ {b : Addr}, b ∉ cs.map (·.2) → withT cs H b = H b := fun z => if_neg z
  -- what is neither the script's list nor an empty table is seen
  have see : ∀ {b : Addr} {o : Obj}, s.heap.get? b = some o → (∀ (u : Array Value) (n : Nat), o.data ≠ .seq u n) → o.data ≠ .fields #[] → withT cs H b = none := fun {b o} z n1 n2 => by
    by_cases y : b ∈ cs.map (·.2)
    · rw [tabO y] at z
      cases z
      exact absurd rfl n2
    · rw [offT y]
      cases q : H b with
      | none => rfl
      | some u =>
        obtain rfl : b = a := hA b (by rw [q]; simp)
        rw [ho] at z
        cases z
        exact absurd rfl (n1 _ _)
  have dic : ∀ {b : Addr} {o : Obj} {es : Array DictEntry} {ep : Nat}, s.heap.get? b = some o → o.data = .dict es ep → withT cs H b = none := fun {b o es ep} z d =>
    see z (fun u n y => by rw [d] at y; cases y) fun y => by rw [d] at y; cases y
  have space : ∀ {b : Addr} {m : Str → Option Value}, s.heap.Ns b m → (hidT s.heap (withT cs H)).Ns b m := by
    rintro b m ⟨o, es, ep, z1, z2, r⟩
    exact ⟨o, es, ep, hidT_get z1 (dic z1 z2), z2, r⟩
  have kin2 : K.In (hidT s.heap (withT cs H)) := fun b o z => by
    refine hidT_get (kin b o z) ?_
    by_cases y : b ∈ cs.map (·.2)
    · obtain ⟨p, hp, e⟩ := List.mem_map.mp y
      subst e
      rw [Nk p hp] at z
      cases z
    · rw [offT y]
      cases q : H b with
      | none => rfl
      | some u =>
        obtain rfl : b = a := hA b (by rw [q]; simp)
        rw [hK (by rw [q]; simp)] at z
        cases z
  have notG : ∀ {b : Addr} {o : Obj}, s.heap.get? b = some o → (∀ (es : Array DictEntry) (ep : Nat), o.data ≠ .dict es ep) → mainGlobals ≠ b := fun {b o} z n y => by
    obtain ⟨og, es, ep, z1, z2, _⟩ := gl
    rw [y, z] at z1
    cases z1
    exact n _ _ z2
  have tabs : ∀ p ∈ cs, TabB (hidT s.heap (withT cs H)) mg p.1 p.2 := fun p hp => by
    have g2 : mainGlobals ≠ p.2 := notG (Nt p hp) fun es ep y => by cases y
    refine NdefX.tabB_of_K kin2 (Cd p hp) ?_ g2
    obtain ⟨bm, ob, m1, m2, m3, m4, m5, m6⟩ := bmn
    have g3 : mainGlobals ≠ bm := notG m3 fun es ep y => by rw [m6] at y; cases y
    refine ⟨bm, ob, m1, m2, fun y => g3 y.symm, fun y => ?_, hidT_get m3 (see m3 (fun u n y => by rw [m6] at y; cases y) fun y => by rw [m6] at y; cases y), m4, m5, m6⟩
    rw [y, Nt p hp] at m3
    cases m3
    cases m6
  have at_a : a ∉ cs.map (·.2) := fun z => by
    have y := tabO z
    rw [ho] at y
    have y2 := congrArg Obj.data (Option.some.inj y)
    cases y2
  obtain ⟨mc, n1, n2⟩ := nl
  have md : Mod K mg (hidT s.heap (withT cs H)) := ⟨kin2, space gl, ⟨mb, space bl, bb⟩, mc, space n1, n2⟩
  have e0 : Env0 P w K mg (hidT s.heap (withT cs H)) callerA [] s (withT cs H) :=
    ⟨rfl, md, fun _ _ z => of_hidT z, Nat.le_of_eq (hidT_size _ _), trivial, fun b z => absurd (show b ∈ ([] : List Addr) from z) (by simp), hok, .of_eq ng⟩
  refine codeAny_mono ((F _ kin2 (space gl) tabs).run callerA [] s _ ⟨[.ref a], []⟩ [.ref a] [.ref a] _ _ hr rfl e0 (bind s (.ref a)) (.cons rfl .nil) hs) fun r s' h => ?_
  cases r with
  | error _ => exact False.elim h
  | ok fl =>
    cases fl with
    | next => exact False.elim h
    | brk => exact False.elim h
    | cont => exact False.elim h
    | ret u =>
      obtain ⟨v, H', os, bare, un, hok', rv, q⟩ := h
      obtain rfl : v = .bl true := q
      obtain rfl : u = Value.bool true := rv
      have stay : ∀ b o, b ∉ cs.map (·.2) → s.heap.get? b = some o → s'.heap.get? b = some o := fun b o y z => by
        cases hb : withT cs H b with
        | none => exact un.keep b o z hb (fun y => absurd (show b ∈ ([] : List Addr) from y) (by simp)) (by simp)
        | some u =>
          rw [offT y] at hb
          rcases hO b with y2 | ⟨ob, xs, y2⟩
          · rw [hb] at y2
            cases y2
          · obtain ⟨e1, _⟩ := hok b _ ((offT y).trans y2)
            obtain ⟨e2, _⟩ := hok' b _ (un.frzs b ob _ ((offT y).trans y2))
            rw [z] at e1
            cases e1
            exact e2
      have more : ∀ b, b ∈ cs.map (·.2) → ∃ us : Array Value, s'.heap.get? b = some { cls := .none, data := .fields us } := fun b y => by
        obtain ⟨us, z⟩ := un.tbls b #[] (inT y)
        exact ⟨_, hok' b _ z⟩
      refine ⟨rfl, ⟨fun b o z => ?_, fun b o z => ?_⟩, os, bare⟩
      · by_cases y : b ∈ cs.map (·.2)
        · obtain ⟨us, z2⟩ := more b y
          obtain ⟨p, hp, e⟩ := List.mem_map.mp y
          subst e
          rw [Nt p hp] at z
          cases z
          refine .inr (.inl ⟨((PySem.W.codeHd_of_K kin (Cd p hp)).tab (Nt p hp)).isCodeTable, rfl, #[], us, rfl, ?_⟩)
          rw [Array.empty_append]
          exact z2
        · exact .inl (stay b o y z)
      · by_cases y : b ∈ cs.map (·.2)
        · obtain ⟨us, z2⟩ := more b y
          exact ⟨_, z2⟩
        · exact ⟨o, stay b o y z⟩
end
/-- the end of such a law, told over whatever part of the heap the head has looked at -/
theorem walkGET {l : PySem.W.OpenLaw} {n k : Nat} {q : Program} {loose : List Str} {XP : (Str → Option Value) → Heap → Prop} {YP : World → Heap → Prop} {d : DefRec} {x : Str}
    (hn : l.most = some n) (hn2 : n ≤ sizeLine) (hdf : d.params.defaults = []) (hr : Room k callerA)
    (F : ∀ (w : World) (mg : Str → Option Value) (fa : Addr) (h : Heap), YP w h → h.Ns mainGlobals mg → mg d.name = some (.ref fa) →
      ∃ (K : PySem.W.Frag) (fd : FuncData) (sp : Sp) (cs : List (Addr × Addr)), K.In h ∧ (∀ p ∈ cs, PySem.W.codeHdIn K p.1 p.2 = true) ∧ (∀ p ∈ cs, h.get? p.2 = some noTab) ∧ (∀ p ∈ cs, K.lookup p.2 = none) ∧
        (∀ (s : Shared) (u : Value), BindsTo s fd ⟨[u], []⟩ [(x, u)]) ∧
        (∀ (H : Hp) (a : Addr) (ns : List Int), ns.length ≤ n → (∀ p ∈ cs, H p.2 = some (.tbl #[])) → SqL K H a (ns.map V.int) → sp [.ref a] H (fun v _ => v = .bl true) fun _ _ _ => False) ∧
        ∀ base : Heap, K.In base → base.Ns mainGlobals mg → (∀ p ∈ cs, TabB base mg p.1 p.2) → FnOkG l.prog w K mg base CX0 k fa fd [x] sp) :
    PySem.W.WalkO q loose XP YP l.row.toRowW d [] (fun f vs => PySem.call f vs) := by
  refine Att.attach_call hn hdf fun w s₀ s mg mb fa o pm cd doc a vs ns G Y ho hd hcd hmg hobj hints hlen hg => ?_
  obtain ⟨K, fd, sp, cs, kin, Cd, Nt, Nk, bind, hsp, hF⟩ := F w mg fa _ Y G.T.g hmg
  have len : ns.length ≤ sizeLine := Nat.le_trans hlen hn2
  have rv := vals_ints hints
  have tH : ∀ (H : Hp), ∀ p ∈ cs, withT cs H p.2 = some (.tbl #[]) := fun H p hp => if_pos (List.mem_map_of_mem hp)
  have tO : ∀ {H : Hp} {b : Addr} {u : HO}, withT cs H b = some u → (u = .tbl #[] ∧ s.heap.get? b = some noTab) ∨ H b = some u := fun {H b u} y => by
    by_cases z : b ∈ cs.map (·.2)
    · have y2 : some (.tbl #[]) = some u := (if_pos z).symm.trans y
      obtain ⟨p, hp, e⟩ := List.mem_map.mp z
      subst e
      exact .inl ⟨(Option.some.inj y2).symm, Nt p hp⟩
    · exact .inr ((if_neg z).symm.trans y)
  have nT : a ∉ cs.map (·.2) := fun z => by
    obtain ⟨p, hp, e⟩ := List.mem_map.mp z
    have y := Nt p hp
    rw [e, hobj] at y
    have y2 := congrArg Obj.data (Option.some.inj y)
    cases y2
  cases hk : K.lookup a with
  | some oa =>
    have z := kin a oa hk
    rw [hobj] at z
    cases z
    have hS : SqL K (withT cs fun _ => none) a (ns.map V.int) := .inr ⟨_, vs.toArray, _, hk, rfl, rfl, rfl, by rw [List.size_toArray, hints.length]; exact len, by simpa using rv⟩
    exact from_heapT (H := fun _ => none) kin G.T.g G.T.b G.T.builtins G.T.nolimit hg G.T.bmain Cd Nt Nk hobj hr hF bind (fun _ => .inl rfl) (fun b u y => by
      rcases tO y with ⟨z1, z2⟩ | z1
      · subst z1
        exact z2
      · cases z1) (fun b y => absurd rfl y) (fun y => absurd rfl y) (hsp _ a ns hlen (tH _) hS)
  | none =>
    have at_a : lstH a vs ns a = some (.frz { cls := .type "list", data := .seq vs.toArray } (.lst (ns.map V.int))) := if_pos rfl
    have other : ∀ b, b ≠ a → lstH a vs ns b = none := fun b hb => if_neg hb
    have hO : Only (lstH a vs ns) := fun b => by
      by_cases hb : b = a
      · exact .inr ⟨_, _, if_pos hb⟩
      · exact .inl (if_neg hb)
    refine from_heapT (H := lstH a vs ns) kin G.T.g G.T.b G.T.builtins G.T.nolimit hg G.T.bmain Cd Nt Nk hobj hr hF bind hO (fun b u y => ?_) (fun b y => ?_) (fun _ => hk) (hsp _ a ns hlen (tH _) (.inl (.inr ⟨_, (if_neg nT).trans at_a⟩)))
    · rcases tO y with ⟨z1, z2⟩ | y
      · subst z1
        exact z2
      by_cases hb : b = a
      · subst hb
        rw [at_a] at y
        cases y
        exact ⟨hobj, by rw [List.length_map]; exact len, vs, _, rv, hobj⟩
      · rw [other b hb] at y
        cases y
    · by_cases hb : b = a
      · exact hb
      · exact absurd (other b hb) y
end Gd
-- part Hk1
set_option maxHeartbeats 4000000
/-! Out of the look at the heap: the law's defs, the class, its methods and properties, the errors. -/
namespace Hk
open PySem PySem.Spec PyProof.Rows L2 NdefX Err Kn
/-- a def by its address -/
theorem fq_of {K : PySem.W.Frag} {d : DQ} (e : fObs K (d.adr K) = d.val) (o : d.ok K = true) : ∃ fd, FunC K d.name d.qual d.st (d.adr K) fd (cdq K (d.adr K)) := by
  obtain ⟨o1, o⟩ := He.ba o
  obtain ⟨o2, o3⟩ := He.ba o
  have o4 : (match K.lookup (d.adr K) with
    | some ⟨_, _, .func fd, _⟩ => (match fd.code with
      | .ref _ => true
      | _ => false)
    | _ => false) = true := o3
  have o5 : PySem.W.codeIn K (.ref (match K.lookup (d.adr K) with
    | some ⟨_, _, .func fd, _⟩ => (match fd.code with
      | .ref c => c
      | _ => 0)
    | _ => 0)) d.qual = true := o1
  unfold fObs at e
  suffices z : ∀ c, c = cdq K (d.adr K) → ∃ fd, FunC K d.name d.qual d.st (d.adr K) fd c from z _ rfl
  intro c hc
  unfold cdq at hc
  cases q : K.lookup (d.adr K) with
  | none =>
    rw [q] at o4
    cases o4
  | some ob =>
    obtain ⟨oc, od, dt, osl⟩ := ob
    rw [q] at o4 o5 e hc
    cases dt with
    | func fd =>
      obtain ⟨n1, n2, n3, n4, n5, n6, n7, n8, n9, n10, n11, n12, n13, n14, n15⟩ := fd
      have e2 : (some (n1, n2, n3, n4, n5, n6, n7, n8, n15) : He.FnV) = d.val := e
      unfold DQ.val at e2
      simp only [Option.some.injEq, Prod.mk.injEq] at e2
      obtain ⟨h1, h2, h3, h4, h5, h6, h7, h8, h9⟩ := e2
      subst h1 h2 h3 h4 h5 h6 h7 h8 h9
      dsimp only at o4 o5 hc
      cases n13 with
      | ref cd =>
        obtain rfl : c = cd := hc
        exact ⟨_, ⟨_, _, _, _, _, _, _, _, rfl, q, o5⟩, o2⟩
      | _ => cases o4
    | _ => cases o4
section
variable {file : Str} {K : PySem.W.Frag} {h : Heap} {mg : Str → Option Value}
theorem fq_at (c : SaysK file h K) {d : DQ} (hd : d ∈ fq) : ∃ fd, FunC K d.name d.qual d.st (d.adr K) fd (cdq K (d.adr K)) := by
  have c1 := c.ck
  unfold chk at c1
  simp only [Bool.and_eq_true] at c1
  exact fq_of (List.map_inj_left.mp c.fs d hd) (List.all_eq_true.mp c1.2.2.2.2.2.2.2.2 d hd)
theorem md_at (c : SaysK file h K) (i : Nat) {x : Str} {n : Nat} (e : MD[i]? = some (x, n)) : ∃ fd, FunC K x x (Kn.topS n) (He.ga K x) fd (cdq K (He.ga K x)) :=
  fq_at c (d := mdD (x, n)) (List.mem_append_left _ (List.mem_map_of_mem (List.mem_of_getElem? e)))
theorem cd_at (c : SaysK file h K) (i : Nat) {d : DQ} (e : CD[i]? = some d) : ∃ fd, FunC K d.name d.qual d.st (d.adr K) fd (cdq K (d.adr K)) :=
  fq_at c (List.mem_append_right _ (List.mem_of_getElem? e))
theorem gl_at (X : K.In h) (G : h.Ns mainGlobals mg) (c : SaysK file h K) (i : Nat) {x : Str} {n : Nat} (e : MD[i]? = some (x, n)) : mg x = some (.ref (He.ga K x)) := by
  have c1 := c.ck
  unfold chk at c1
  simp only [Bool.and_eq_true] at c1
  exact He.glo_ok X G (List.all_eq_true.mp c1.2.2.2.2.2.2.2.1 _ (List.mem_of_getElem? e))
theorem fact_at (c : SaysK file h K) (i : Nat) {f : He.Fa} (e : fa[i]? = some f) : f.ok K = true := by
  have c1 := c.ck
  unfold chk at c1
  simp only [Bool.and_eq_true] at c1
  exact List.all_eq_true.mp c1.2.2.2.2.2.2.1 _ (List.mem_of_getElem? e)
theorem fr_at (X : K.In h) (G : h.Ns mainGlobals mg) (c : SaysK file h K) (i : Nat) {x : Str} (e : fa[i]? = some (.free x) := by rfl) : mg x = none := He.free_ok X G (fact_at c i e)
theorem sys_at (c : SaysK file h K) : ∃ o, K.lookup sysModules = some o := by
  have c1 := c.ck
  unfold chk genB at c1
  simp only [Bool.and_eq_true] at c1
  exact Option.isSome_iff_exists.mp c1.1.2.2.2
theorem gen_at (c : SaysK file h K) : genB K = true := by
  have c1 := c.ck
  unfold chk at c1
  simp only [Bool.and_eq_true] at c1
  exact c1.1
theorem still_at (c : SaysK file h K) : basB K (He.ga K bS) = true := by
  have c1 := c.ck
  unfold chk at c1
  simp only [Bool.and_eq_true] at c1
  exact c1.2.1.1
theorem prop_at (c : SaysK file h K) {x : Str} (hx : x ∈ (["steps", "good", "states", "kinds"] : List Str)) : PropOf K (He.ga K pC) x (He.ma K (He.ga K pC) x) (gtr K x) := by
  have c1 := c.ck
  unfold chk at c1
  simp only [Bool.and_eq_true] at c1
  have z := List.all_eq_true.mp c1.2.2.2.2.1 x hx
  unfold propB at z
  simp only [Bool.and_eq_true, decide_eq_true_eq] at z
  obtain ⟨z1, z2, z3, z4⟩ := z
  refine ⟨He.eqO_ok z1, He.eqO_ok z2, z3, ?_⟩
  unfold recB at z4
  unfold gtr
  split at z4
  · rename_i g r e
    rw [e]
    exact ⟨r, rfl⟩
  · cases z4
theorem tab_at (c : SaysK file h K) {x : Str} (hx : x ∈ TN) : PySem.W.codeHdIn K (cdq K (He.ga K x)) (tbq K x) = true ∧ K.lookup (tbq K x) = none := by
  have c1 := c.ck
  unfold chk tabK at c1
  simp only [Bool.and_eq_true] at c1
  have z := List.all_eq_true.mp c1.2.2.2.2.2.1.1 x hx
  simp only [Bool.and_eq_true] at z
  exact ⟨z.1, Option.isNone_iff_eq_none.mp z.2⟩
theorem tab_ne (c : SaysK file h K) : tbq K "_law_rows_right" ≠ tbq K "law" := by
  have c1 := c.ck
  unfold chk tabK at c1
  simp only [Bool.and_eq_true, Bool.not_eq_true', decide_eq_false_iff_not] at c1
  exact c1.2.2.2.2.2.1.2
/-- the class -/
structure PatA (K : PySem.W.Frag) (C : Addr) : Prop where
  tx : PTxt K C
  is : PIs K C
  iz : PIz K C
  mr : Mk K C (He.ma K C "__init__")
  m1 : Meth K C "fits" (He.ma K C "fits")
  m2 : Meth K C "fits_along" (He.ma K C "fits_along")
  eq : PySem.W.findIn K (.ref C) "__eq__" = some (some (.ref (He.ma K C "__eq__")))
  eqF : PySem.W.isFn K (.ref (He.ma K C "__eq__")) = true
  ne : PySem.W.findIn K (.ref C) "__ne__" = some (some (.builtin "object.__ne__"))
  n1 : PySem.W.notFirst K C (.ref C) = true
  n2 : PySem.W.notFirst K C (.type "dict") = true
  dc : PySem.W.kitOne K (.type "dict") (.ref C) = some false
theorem pat_at (c : SaysK file h K) : PatA K (He.ga K pC) := by
  have c1 := c.ck
  unfold chk patB genB at c1
  simp only [Bool.and_eq_true, decide_eq_true_eq] at c1
  obtain ⟨⟨g1, g2, _, _⟩, _, _, ⟨p1, p2, p3, p4, p5, p6, p7, p8, p9, p10, p11⟩, _⟩ := c1
  have cl := He.cls_ok (fact_at c 21 (f := .cls pC) rfl)
  exact {
    tx := ⟨cl, He.noat_ok (fact_at c 22 (f := .noat pC "_steps") rfl), He.noat_ok (fact_at c 23 (f := .noat pC "_states") rfl), He.noat_ok (fact_at c 24 (f := .noat pC "_good") rfl)⟩
    is := ⟨He.eqO_ok p1, He.eqO_ok g1, g2, p2, p3⟩
    iz := ⟨cl, He.eqO_ok p1, He.eqO_ok g1, g2, p2, p4, p5⟩
    mr := He.mkr_ok (fact_at c 25 (f := .mkr pC) rfl)
    m1 := He.meth_ok (fact_at c 26 (f := .meth pC "fits") rfl)
    m2 := He.meth_ok (fact_at c 27 (f := .meth pC "fits_along") rfl)
    eq := He.eqO_ok p7
    eqF := p8
    ne := He.eqO_ok p9
    n1 := p10
    n2 := p11
    dc := p6 }
/-- an error of the package -/
structure ErrA (P : Program) (K : PySem.W.Frag) (mg : Str → Option Value) (x att : Str) (C : Addr) : Prop where
  gl : mg x = some (.ref C)
  kp : PySem.W.keepIn K (.ref C) = true
  one : One P K C att
  is : Isi K C
  own : PySem.W.kitOne K (.ref C) (.ref C) = some true
  no : PySem.W.findIn K (.ref C) att = some none
  ex : PySem.W.exmOne K (.ref C) (.ref (He.ga K bS)) = some true
theorem err_at {P : Program} (X : K.In h) (G : h.Ns mainGlobals mg) (c : SaysK P.main.file h K) (tp : (P.main.scope.names.lookup ("super" : Str)).isSome = false) {d : ErrD} (hd : d ∈ ED) (t : Text d) : ErrA P K mg d.nm d.att (He.ga K d.nm) := by
  have c1 := c.ck
  unfold chk at c1
  simp only [Bool.and_eq_true] at c1
  have z := List.all_eq_true.mp c1.2.2.1 d hd
  unfold errB at z
  simp only [Bool.and_eq_true, decide_eq_true_eq] at z
  obtain ⟨z1, z2, z3, z4, z5⟩ := z
  have g := gen_at c
  have b2 := z2
  unfold basB at b2
  simp only [Bool.and_eq_true, decide_eq_true_eq] at b2
  have o := z4
  unfold oneB at o
  simp only [Bool.and_eq_true, decide_eq_true_eq] at o
  exact {
    gl := He.glo_ok X G z1
    kp := b2.2.1
    one := one_of (l := [.ref (He.ga K bS)]) t (List.map_inj_left.mp c.is d hd) z4 z2 z3 g tp
    is := isi_of (l := [.ref (He.ga K bS)]) z2 z3 g
    own := by
      rw [kit_ref (l := [He.ga K d.nm, He.ga K bS]) z3 rfl z2]
      exact congrArg some (decide_eq_true (List.mem_cons_self ..))
    no := He.eqO_ok o.2.2.2.2.2.2
    ex := z5 }
end
end Hk
-- part Hk2
set_option maxHeartbeats 4000000
/-! Every def's promise, one out of the other. -/
namespace Hk
open PySem PySem.Spec PyProof.Rows L2 NdefX Err Kn LamX
section
variable {P : Program} {w : World} {file : Str} {K : PySem.W.Frag} {h : Heap} {mg : Str → Option Value} {base : Heap}
theorem df_of (X : K.In h) (G : h.Ns mainGlobals mg) (c : SaysK file h K) {CX : CXT} {k : Nat} {ps : List Str} {sp : Sp} (i : Nat) (x : Str) (n : Nat) (e : MD[i]? = some (x, n))
    (B : ∀ (kV doc pm : Value) (an : Option Addr) (cdv ct : Value) (us : List Value), us.length = ps.length → bindArgs (PySem.W.fnOf x x (defArgs (Kn.topS n)) (defBody (Kn.topS n)) (defScope (Kn.topS n)) .none kV doc pm an cdv ct) ⟨us, []⟩ = pure (ps.zip us))
    (ok : ∀ (f : Addr) (fd : FuncData), L2.Fun K x x (Kn.topS n) f fd → FnOk P w K mg base CX k f fd ps sp) : Df P w K mg base CX k x ps sp := by
  obtain ⟨fd, F⟩ := md_at c i e
  exact ⟨_, fd, ok _ _ F.toFun, F.kp, F.toFun.binds B, gl_at X G c i e⟩
/-- what the head tells, in short -/
structure Hd (file : Str) (K : PySem.W.Frag) (h : Heap) (mg : Str → Option Value) : Prop where
  X : K.In h
  G : h.Ns mainGlobals mg
  c : SaysK file h K
theorem Hd.fr (d : Hd file K h mg) (i : Nat) {x : Str} (e : fa[i]? = some (.free x) := by rfl) : mg x = none := fr_at d.X d.G d.c i e
theorem Hd.super (d : Hd file K h mg) : mg "super" = none := d.fr 0
theorem Hd.isinst (d : Hd file K h mg) : mg "isinstance" = none := d.fr 1
theorem Hd.int (d : Hd file K h mg) : mg "int" = none := d.fr 2
theorem Hd.bool (d : Hd file K h mg) : mg "bool" = none := d.fr 3
theorem Hd.str (d : Hd file K h mg) : mg "str" = none := d.fr 4
theorem Hd.list (d : Hd file K h mg) : mg "list" = none := d.fr 5
theorem Hd.tuple (d : Hd file K h mg) : mg "tuple" = none := d.fr 6
theorem Hd.dict (d : Hd file K h mg) : mg "dict" = none := d.fr 7
theorem Hd.len (d : Hd file K h mg) : mg "len" = none := d.fr 8
theorem Hd.all (d : Hd file K h mg) : mg "all" = none := d.fr 9
theorem Hd.max (d : Hd file K h mg) : mg "max" = none := d.fr 10
theorem Hd.min (d : Hd file K h mg) : mg "min" = none := d.fr 11
theorem Hd.sorted (d : Hd file K h mg) : mg "sorted" = none := d.fr 12
theorem Hd.set (d : Hd file K h mg) : mg "set" = none := d.fr 13
theorem Hd.range (d : Hd file K h mg) : mg "range" = none := d.fr 14
theorem Hd.enum (d : Hd file K h mg) : mg "enumerate" = none := d.fr 15
theorem Hd.repr (d : Hd file K h mg) : mg "repr" = none := d.fr 16
theorem Hd.abs (d : Hd file K h mg) : mg "abs" = none := d.fr 17
theorem Hd.letters (d : Hd file K h mg) : ∃ t, mg "LETTERS" = some (.str LET t) := He.str_ok d.X d.G (fact_at d.c 18 (f := .str "LETTERS" "abcdefghijklmnopqrstuvwxyz") rfl)
theorem Hd.pat (d : Hd file K h mg) : mg "Pattern" = some (.ref (He.ga K pC)) := He.glo_ok d.X d.G (fact_at d.c 19 (f := .glo pC) rfl)
theorem Hd.still (d : Hd file K h mg) : mg "StillError" = some (.ref (He.ga K bS)) := He.glo_ok d.X d.G (fact_at d.c 20 (f := .glo bS) rfl)
variable (d : Hd file K h mg)
include d
/-! ### values -/
theorem df_number : Df P w K mg base CX0 1 "is_number" ["value"] (spJ isNum) := df_of d.X d.G d.c 0 "is_number" 6 rfl (fun _ _ _ _ _ _ us hl => match us, hl with | [_], _ => rfl) fun _ _ F => ok_number F d.isinst d.int d.bool
theorem df_within : Df P w K mg base CX0 2 "is_within" ["value", "least", "greatest"] spWithin := by
  obtain ⟨f1, fd1, G1, k1, b1, g1⟩ := df_number (P := P) (w := w) (base := base) d
  exact df_of d.X d.G d.c 1 "is_within" 7 rfl (fun _ _ _ _ _ _ us hl => match us, hl with | [_, _, _], _ => rfl) fun _ _ F => ok_within F G1 k1 b1 g1
theorem df_name : Df P w K mg base CX0 1 "is_name" ["value"] spName := df_of d.X d.G d.c 2 "is_name" 8 rfl (fun _ _ _ _ _ _ us hl => match us, hl with | [_], _ => rfl) fun _ _ F => ok_name F d.isinst d.str d.len d.all d.letters
theorem df_isList : Df P w K mg base CX0 1 "is_list" ["value"] spIsList := df_of d.X d.G d.c 3 "is_list" 9 rfl (fun _ _ _ _ _ _ us hl => match us, hl with | [_], _ => rfl) fun _ _ F => ok_isList F d.isinst d.list d.tuple
theorem df_isList2 : Df P w K mg base CX0 1 "is_list" ["value"] (spIsList2 (He.ga K pC)) := df_of d.X d.G d.c 3 "is_list" 9 rfl (fun _ _ _ _ _ _ us hl => match us, hl with | [_], _ => rfl) fun _ _ F => ok_isList2 F (pat_at d.c).iz d.isinst d.list d.tuple
theorem df_tupOf : Df P w K mg base CX0 1 "is_tuple_of" ["value", "many"] spTupOf := df_of d.X d.G d.c 4 "is_tuple_of" 10 rfl (fun _ _ _ _ _ _ us hl => match us, hl with | [_, _], _ => rfl) fun _ _ F => ok_tupOf F d.isinst d.tuple d.len
theorem df_dctN : Df P w K mg base CX0 2 "is_dict_of_names" ["value", "fewest", "most"] spDctN := by
  obtain ⟨f1, fd1, G1, k1, b1, g1⟩ := df_name (P := P) (w := w) (base := base) d
  exact df_of d.X d.G d.c 5 "is_dict_of_names" 11 rfl (fun _ _ _ _ _ _ us hl => match us, hl with | [_, _, _], _ => rfl) fun _ _ F => ok_dctN F G1 k1 b1 g1 d.isinst d.dict d.len d.all
theorem df_dctN2 : Df P w K mg base CX0 2 "is_dict_of_names" ["value", "fewest", "most"] (spDctN2 P w) := by
  obtain ⟨f1, fd1, G1, k1, b1, g1⟩ := df_name (P := P) (w := w) (base := base) d
  exact df_of d.X d.G d.c 5 "is_dict_of_names" 11 rfl (fun _ _ _ _ _ _ us hl => match us, hl with | [_, _, _], _ => rfl) fun _ _ F => ok_dctN2 F G1 k1 b1 g1 d.isinst d.dict d.len d.all
theorem df_keyOf : Df P w K mg base CX0 1 "is_key_of" ["value", "names"] spKeyOf := df_of d.X d.G d.c 6 "is_key_of" 12 rfl (fun _ _ _ _ _ _ us hl => match us, hl with | [_, _], _ => rfl) fun _ _ F => ok_keyOf F d.isinst d.str
theorem df_row : Df P w K mg base CX0 2 "is_row" ["kinds", "value"] spRow := by
  obtain ⟨f1, fd1, G1, k1, b1, g1⟩ := df_tupOf (P := P) (w := w) (base := base) d
  obtain ⟨f2, fd2, G2, k2, b2, g2⟩ := df_keyOf (P := P) (w := w) (base := base) d
  obtain ⟨f3, fd3, G3, k3, b3, g3⟩ := df_number (P := P) (w := w) (base := base) d
  exact df_of d.X d.G d.c 7 "is_row" 13 rfl (fun _ _ _ _ _ _ us hl => match us, hl with | [_, _], _ => rfl) fun _ _ F => ok_row F G1 k1 b1 g1 G2 k2 b2 g2 G3 k3 b3 g3
theorem df_states : Df P w K mg base CX0 3 "are_states" ["value", "many"] spStates := by
  obtain ⟨f1, fd1, G1, k1, b1, g1⟩ := df_isList (P := P) (w := w) (base := base) d
  obtain ⟨f2, fd2, G2, k2, b2, g2⟩ := df_within (P := P) (w := w) (base := base) d
  exact df_of d.X d.G d.c 9 "are_states" 16 rfl (fun _ _ _ _ _ _ us hl => match us, hl with | [_, _], _ => rfl) fun _ _ F => ok_states F G1 k1 b1 g1 G2 k2 b2 g2 d.all
theorem df_moves : Df P w K mg base CX0 4 "are_moves" ["value"] spMoves := by
  obtain ⟨f1, fd1, G1, k1, b1, g1⟩ := df_isList (P := P) (w := w) (base := base) d
  obtain ⟨f2, fd2, G2, k2, b2, g2⟩ := df_dctN (P := P) (w := w) (base := base) d
  obtain ⟨f3, fd3, G3, k3, b3, g3⟩ := df_states (P := P) (w := w) (base := base) d
  exact df_of d.X d.G d.c 10 "are_moves" 17 rfl (fun _ _ _ _ _ _ us hl => match us, hl with | [_], _ => rfl) fun _ _ F => ok_moves F G1 k1 b1 g1 G2 k2 b2 g2 G3 k3 b3 g3 d.all d.max d.len
theorem df_moves2 : Df P w K mg base CX0 4 "are_moves" ["value"] (spMoves2 P w) := by
  obtain ⟨f1, fd1, G1, k1, b1, g1⟩ := df_isList (P := P) (w := w) (base := base) d
  obtain ⟨f2, fd2, G2, k2, b2, g2⟩ := df_dctN2 (P := P) (w := w) (base := base) d
  obtain ⟨f3, fd3, G3, k3, b3, g3⟩ := df_states (P := P) (w := w) (base := base) d
  exact df_of d.X d.G d.c 10 "are_moves" 17 rfl (fun _ _ _ _ _ _ us hl => match us, hl with | [_], _ => rfl) fun _ _ F => ok_moves2 F G1 k1 b1 g1 G2 k2 b2 g2 G3 k3 b3 g3 d.all d.max d.len
theorem df_good : Df P w K mg base CX0 4 "are_good" ["value", "many"] spGood := by
  obtain ⟨f3, fd3, G3, k3, b3, g3⟩ := df_states (P := P) (w := w) (base := base) d
  exact df_of d.X d.G d.c 11 "are_good" 18 rfl (fun _ _ _ _ _ _ us hl => match us, hl with | [_, _], _ => rfl) fun _ _ F => ok_good F G3 k3 b3 g3 d.all
/-! ### the law's own -/
theorem df_begun : Df P w K mg base CX0 1 "_law_begun" ["_law_script"] (spBegun K) := df_of d.X d.G d.c 12 "_law_begun" 21 rfl (fun _ _ _ _ _ _ us hl => match us, hl with | [_], _ => rfl) fun _ _ F => ok_begun F d.abs
theorem df_take : Df P w K mg base CX0 2 "_law_take" ["_law_draw", "_law_amount"] spTake := by
  obtain ⟨fdM, M⟩ := md_at d.c 13 (x := "_law_mixed") (n := 22) rfl
  exact df_of d.X d.G d.c 14 "_law_take" 23 rfl (fun _ _ _ _ _ _ us hl => match us, hl with | [_, _], _ => rfl) fun _ _ F =>
    ok_take F M.toFun (M.toFun.binds (ps := ["_law_draw"]) fun _ _ _ _ _ _ us hl => match us, hl with | [_], _ => rfl) (gl_at d.X d.G d.c 13 (x := "_law_mixed") (n := 22) rfl) d.int
theorem df_pick : Df P w K mg base CX0 3 "_law_pick" ["_law_draw", "_law_some"] spPick := by
  obtain ⟨fdM, M⟩ := md_at d.c 13 (x := "_law_mixed") (n := 22) rfl
  obtain ⟨fdT, T⟩ := md_at d.c 14 (x := "_law_take") (n := 23) rfl
  exact df_of d.X d.G d.c 15 "_law_pick" 24 rfl (fun _ _ _ _ _ _ us hl => match us, hl with | [_, _], _ => rfl) fun _ _ F =>
    ok_pick F T.toFun M.toFun (T.toFun.binds (ps := ["_law_draw", "_law_amount"]) fun _ _ _ _ _ _ us hl => match us, hl with | [_, _], _ => rfl) (M.toFun.binds (ps := ["_law_draw"]) fun _ _ _ _ _ _ us hl => match us, hl with | [_], _ => rfl)
      (gl_at d.X d.G d.c 14 (x := "_law_take") (n := 23) rfl) (gl_at d.X d.G d.c 13 (x := "_law_mixed") (n := 22) rfl) d.int d.len
theorem df_shuf : Df P w K mg base CX0 3 "_law_shuffled" ["_law_draw", "_law_some"] spShuf := by
  obtain ⟨f1, fd1, G1, k1, b1, g1⟩ := df_take (P := P) (w := w) (base := base) d
  exact df_of d.X d.G d.c 16 "_law_shuffled" 25 rfl (fun _ _ _ _ _ _ us hl => match us, hl with | [_, _], _ => rfl) fun _ _ F => ok_shuf F G1 k1 b1 g1 d.len d.list
theorem df_titles : Df P w K mg base CX0 4 "_law_titles" ["_law_draw", "_law_many"] spTitles := by
  obtain ⟨f1, fd1, G1, k1, b1, g1⟩ := df_shuf (P := P) (w := w) (base := base) d
  exact df_of d.X d.G d.c 18 "_law_titles" 27 rfl (fun _ _ _ _ _ _ us hl => match us, hl with | [_, _], _ => rfl) fun _ _ F => ok_titles F G1 k1 b1 g1 d.sorted
theorem df_lpat : Df P w K mg base CX0 3 "_law_pattern" ["_law_draw", "_law_sorts_here", "_law_most"] spLPat := by
  obtain ⟨f1, fd1, G1, k1, b1, g1⟩ := df_take (P := P) (w := w) (base := base) d
  exact df_of d.X d.G d.c 19 "_law_pattern" 28 rfl (fun _ _ _ _ _ _ us hl => match us, hl with | [_, _, _], _ => rfl) fun _ _ F => ok_lpat F G1 k1 b1 g1 d.range
theorem df_lrows : Df P w K mg base CX0 4 "_law_rows" ["_law_draw", "_law_model", "_law_most"] spLRows := by
  obtain ⟨f1, fd1, G1, k1, b1, g1⟩ := df_take (P := P) (w := w) (base := base) d
  obtain ⟨f2, fd2, G2, k2, b2, g2⟩ := df_pick (P := P) (w := w) (base := base) d
  exact df_of d.X d.G d.c 20 "_law_rows" 29 rfl (fun _ _ _ _ _ _ us hl => match us, hl with | [_, _, _], _ => rfl) fun _ _ F => ok_lrows F G1 k1 b1 g1 G2 k2 b2 g2 d.range
theorem df_lfits : Df P w K mg base CX0 1 "_law_fits" ["_law_told_here", "_law_rows_here"] spLFits := df_of d.X d.G d.c 21 "_law_fits" 30 rfl (fun _ _ _ _ _ _ us hl => match us, hl with | [_, _], _ => rfl) fun _ _ F => ok_lfits F
theorem df_lstate : Df P w K mg base CX0 1 "_law_is_state" ["_law_thing_here", "_law_many"] spLState := df_of d.X d.G d.c 22 "_law_is_state" 31 rfl (fun _ _ _ _ _ _ us hl => match us, hl with | [_, _], _ => rfl) fun _ _ F => ok_lstate F d.isinst d.int d.bool
theorem df_ltitle : Df P w K mg base CX0 1 "_law_is_title" ["_law_thing_here"] spLTitle := df_of d.X d.G d.c 23 "_law_is_title" 32 rfl (fun _ _ _ _ _ _ us hl => match us, hl with | [_], _ => rfl) fun _ _ F => ok_ltitle F d.isinst d.str d.len
theorem df_ldue : Df P w K mg base CX0 2 "_law_due" ["_law_steps_here", "_law_good_here"] (spOr spLDue (spLDue2 P w)) := by
  obtain ⟨f1, fd1, G1, k1, b1, g1⟩ := df_ltitle (P := P) (w := w) (base := base) d
  obtain ⟨f2, fd2, G2, k2, b2, g2⟩ := df_lstate (P := P) (w := w) (base := base) d
  exact df_of d.X d.G d.c 24 "_law_due" 33 rfl (fun _ _ _ _ _ _ us hl => match us, hl with | [_, _], _ => rfl) fun _ _ F =>
    fn_or (ok_ldue F G1 k1 b1 g1 G2 k2 b2 g2 d.isinst d.dict d.list d.tuple d.len d.set) (ok_ldue2 F G1 k1 b1 g1 G2 k2 b2 g2 d.isinst d.dict d.list d.tuple d.len d.set)
theorem df_lspo : Df P w K mg base CX0 4 "_law_spoilt" ["_law_draw", "_law_steps_here", "_law_good_here"] (spLSpo P w) := by
  obtain ⟨f1, fd1, G1, k1, b1, g1⟩ := df_take (P := P) (w := w) (base := base) d
  obtain ⟨f2, fd2, G2, k2, b2, g2⟩ := df_pick (P := P) (w := w) (base := base) d
  exact df_of d.X d.G d.c 25 "_law_spoilt" 34 rfl (fun _ _ _ _ _ _ us hl => match us, hl with | [_, _, _], _ => rfl) fun _ _ F => ok_lspo F G1 k1 b1 g1 G2 k2 b2 g2 d.dict d.sorted d.len d.tuple d.list
omit d
theorem caught_at (d : Hd file K h mg) : ∃ (f : Addr) (fd : FuncData), L2.Fun K "_law_caught" "_law_caught" sCaught f fd ∧ Binds K fd ["_law_work"] [] ∧ mg "_law_caught" = some (.ref f) := by
  obtain ⟨fd, F⟩ := md_at d.c 17 (x := "_law_caught") (n := 26) rfl
  exact ⟨_, fd, F.toFun, F.toFun.binds fun _ _ _ _ _ _ us hl => match us, hl with | [_], _ => rfl, gl_at d.X d.G d.c 17 (x := "_law_caught") (n := 26) rfl⟩
end
end Hk
-- part Hk3
set_option maxHeartbeats 4000000
/-! The class, the rows told right, the law. -/
namespace Hk
open PySem PySem.Spec PyProof.Rows L2 NdefX Err Kn LamX
section
variable {P : Program} {w : World} {K : PySem.W.Frag} {h : Heap} {mg : Str → Option Value} {base : Heap}
theorem ePat (d : Hd P.main.file K h mg) (tp : (P.main.scope.names.lookup ("super" : Str)).isSome = false) : ErrA P K mg "BadPattern" "part" (He.ga K "BadPattern") := err_at d.X d.G d.c tp (d := d0) (by unfold ED; exact List.mem_cons_self ..) t0
theorem eRows (d : Hd P.main.file K h mg) (tp : (P.main.scope.names.lookup ("super" : Str)).isSome = false) : ErrA P K mg "BadRows" "at" (He.ga K "BadRows") := err_at d.X d.G d.c tp (d := d1) (by unfold ED; exact List.mem_cons_of_mem _ (List.mem_cons_self ..)) t1
variable (d : Hd P.main.file K h mg) (tp : (P.main.scope.names.lookup ("super" : Str)).isSome = false)
include d tp
theorem df_rows : Df P w K mg base (L2.CX P w) 3 "checked_rows" ["kinds", "rows"] (spRows (He.ga K "BadRows")) := by
  obtain ⟨f1, fd1, G1, k1, b1, g1⟩ := df_isList (P := P) (w := w) (base := base) d
  obtain ⟨f2, fd2, G2, k2, b2, g2⟩ := df_row (P := P) (w := w) (base := base) d
  have E := eRows d tp
  exact df_of d.X d.G d.c 8 "checked_rows" 14 rfl (fun _ _ _ _ _ _ us hl => match us, hl with | [_, _], _ => rfl) fun _ _ F => ok_rows F G1 k1 b1 g1 G2 k2 b2 g2 E.one d.super E.gl E.kp d.enum d.list
theorem df_rows2 : Df P w K mg base (L2.CX P w) 3 "checked_rows" ["kinds", "rows"] (spRows2 (He.ga K pC) (He.ga K "BadRows")) := by
  obtain ⟨f1, fd1, G1, k1, b1, g1⟩ := df_isList2 (P := P) (w := w) (base := base) d
  obtain ⟨f2, fd2, G2, k2, b2, g2⟩ := df_row (P := P) (w := w) (base := base) d
  have E := eRows d tp
  exact df_of d.X d.G d.c 8 "checked_rows" 14 rfl (fun _ _ _ _ _ _ us hl => match us, hl with | [_, _], _ => rfl) fun _ _ F => ok_rows2 F G1 k1 b1 g1 G2 k2 b2 g2 E.one d.super E.gl E.kp d.enum d.list
/-! ### methods -/
theorem fits_at : ∃ fd : FuncData, FnOk P w K mg base (L2.CX P w) 4 (He.ma K (He.ga K pC) "fits") fd ["self", "rows"] (spOr (spFits (He.ga K pC) (He.ga K "BadRows")) (spFits2 (He.ga K pC) (He.ga K "BadRows"))) ∧ Binds K fd ["self", "rows"] [] ∧
    ∀ (s : Shared) (u v : Value), BindsTo s fd ⟨[u], [("rows", v)]⟩ [("self", u), ("rows", v)] := by
  obtain ⟨f1, fd1, G1, k1, b1, g1⟩ := df_rows (P := P) (w := w) (base := base) d tp
  obtain ⟨f2, fd2, G2, k2, b2, g2⟩ := df_rows2 (P := P) (w := w) (base := base) d tp
  have A := pat_at d.c
  obtain ⟨fdA, FA⟩ := cd_at d.c 7 (d := meD "fits_along" "Pattern.fits_along" 7) rfl
  have bA : Binds K fdA ["self", "rows"] [] := FA.toFun.binds fun _ _ _ _ _ _ us hl => match us, hl with | [_, _], _ => rfl
  have GA : FnOk P w K mg base CX0 1 _ fdA ["self", "rows"] (spAlong (He.ga K pC)) := ok_along FA.toFun A.tx
  obtain ⟨fd, F⟩ := cd_at d.c 6 (d := meD "fits" "Pattern.fits" 6) rfl
  refine ⟨fd, fn_or (ok_fits F.toFun A.tx G1 k1 b1 g1 GA bA A.m2) (ok_fits2 F.toFun A.tx G2 k2 b2 g2 GA bA A.m2), F.toFun.binds fun _ _ _ _ _ _ us hl => match us, hl with | [_, _], _ => rfl, fun s u v => ?_⟩
  obtain ⟨oc, od, kV, doc, pm, an, ct, osl, rfl, _, _⟩ := F.ex
  exact .of_eq rfl
theorem init_at : ∃ fd : FuncData, FnOk P w K mg base (L2.CX P w) 5 (He.ma K (He.ga K pC) "__init__") fd ["self", "steps", "good"] (spOr (spInit (He.ga K pC) (He.ga K "BadPattern")) (spInit2 P w (He.ga K pC) (He.ga K "BadPattern"))) ∧
    Binds K fd ["self", "steps", "good"] [] ∧ ∀ (s : Shared) (u a b : Value), BindsTo s fd ⟨[u], [("good", a), ("steps", b)]⟩ [("self", u), ("steps", b), ("good", a)] := by
  obtain ⟨f1, fd1, G1, k1, b1, g1⟩ := df_moves (P := P) (w := w) (base := base) d
  obtain ⟨f2, fd2, G2, k2, b2, g2⟩ := df_moves2 (P := P) (w := w) (base := base) d
  obtain ⟨f3, fd3, G3, k3, b3, g3⟩ := df_good (P := P) (w := w) (base := base) d
  have A := pat_at d.c
  have E := ePat d tp
  obtain ⟨fd, F⟩ := cd_at d.c 0 (d := meD "__init__" "Pattern.__init__" 0) rfl
  refine ⟨fd, fn_or (ok_init F.toFun A.tx G1 k1 b1 g1 G3 k3 b3 g3 E.one d.super E.gl E.kp d.sorted d.tuple d.len d.min) (ok_init2 F.toFun A.tx G2 k2 b2 g2 G3 k3 b3 g3 E.one d.super E.gl E.kp d.sorted d.tuple d.len d.min),
    F.toFun.binds fun _ _ _ _ _ _ us hl => match us, hl with | [_, _, _], _ => rfl, fun s u a b => ?_⟩
  obtain ⟨oc, od, kV, doc, pm, an, ct, osl, rfl, _, _⟩ := F.ex
  exact .of_eq rfl
theorem df_right {T : List (Addr × Str)} {Pt : Addr} (TB : TabB base mg (cdq K (He.ga K "_law_rows_right")) Pt) (h1 : (Pt, ("_law_rows_right.<locals>." : Str) ++ "<lambda>") ∈ T) (h2 : ∀ p ∈ T, p.1 = Pt → p.2 = ("_law_rows_right.<locals>." : Str) ++ "<lambda>") :
    Df P w K mg base CX0 7 "_law_rows_right" ["_law_draw", "_law_made", "_law_model"] (spLRight T (He.ga K pC)) := by
  obtain ⟨fT, fdT, GT, kT, bT, gT⟩ := df_take (P := P) (w := w) (base := base) d
  obtain ⟨fP, fdP, GP, kP, bP, gP⟩ := df_pick (P := P) (w := w) (base := base) d
  obtain ⟨fR, fdR, GR, kR, bR, gR⟩ := df_lrows (P := P) (w := w) (base := base) d
  obtain ⟨fL, fdL, GL, kL, bL, gL⟩ := df_lfits (P := P) (w := w) (base := base) d
  obtain ⟨fC, fdC, FC, bC, gC⟩ := caught_at d
  obtain ⟨fdf, GF, bF, bK⟩ := fits_at (P := P) (w := w) (base := base) d tp
  obtain ⟨fd, F⟩ := md_at d.c 26 (x := "_law_rows_right") (n := 35) rfl
  have E := eRows d tp
  have A := pat_at d.c
  exact ⟨_, fd, ok_lright F TB h1 h2 ⟨A.tx, E.gl, E.kp, E.is, E.own, E.no, E.ex, d.still⟩ GT kT bT gT GP kP bP gP GR kR bR gR GL kL bL gL FC bC gC GF bF bK A.m1 d.sorted d.tuple d.len d.isinst d.repr,
    F.kp, F.toFun.binds fun _ _ _ _ _ _ us hl => match us, hl with | [_, _, _], _ => rfl, gl_at d.X d.G d.c 26 (x := "_law_rows_right") (n := 35) rfl⟩
omit tp
theorem p1_at : Pd P w K mg base (He.ga K pC) "steps" (spSt1 (He.ga K pC)) := by
  obtain ⟨fd, F⟩ := cd_at d.c 2 (d := prD "steps" "Pattern.steps" 2) rfl
  exact ⟨_, _, fd, ok_st1 F.toFun (pat_at d.c).tx d.dict, prop_at d.c (by simp), F.toFun.binds fun _ _ _ _ _ _ us hl => match us, hl with | [_], _ => rfl⟩
theorem p2_at : Pd P w K mg base (He.ga K pC) "good" (spSt2 (He.ga K pC)) := by
  obtain ⟨fd, F⟩ := cd_at d.c 3 (d := prD "good" "Pattern.good" 3) rfl
  exact ⟨_, _, fd, ok_st2 F.toFun (pat_at d.c).tx, prop_at d.c (by simp), F.toFun.binds fun _ _ _ _ _ _ us hl => match us, hl with | [_], _ => rfl⟩
theorem p3_at : Pd P w K mg base (He.ga K pC) "states" (spSt3 (He.ga K pC)) := by
  obtain ⟨fd, F⟩ := cd_at d.c 4 (d := prD "states" "Pattern.states" 4) rfl
  exact ⟨_, _, fd, ok_st3 F.toFun (pat_at d.c).tx, prop_at d.c (by simp), F.toFun.binds fun _ _ _ _ _ _ us hl => match us, hl with | [_], _ => rfl⟩
theorem p4_at : Pd P w K mg base (He.ga K pC) "kinds" (spSt4 (He.ga K pC)) := by
  obtain ⟨fd, F⟩ := cd_at d.c 5 (d := prD "kinds" "Pattern.kinds" 5) rfl
  exact ⟨_, _, fd, ok_st4 F.toFun (pat_at d.c).tx d.tuple, prop_at d.c (by simp), F.toFun.binds fun _ _ _ _ _ _ us hl => match us, hl with | [_], _ => rfl⟩
include tp
theorem env_at {T : List (Addr × Str)} {Pt : Addr} (TB : TabB base mg (cdq K (He.ga K "_law_rows_right")) Pt) (h1 : (Pt, ("_law_rows_right.<locals>." : Str) ++ "<lambda>") ∈ T) (h2 : ∀ p ∈ T, p.1 = Pt → p.2 = ("_law_rows_right.<locals>." : Str) ++ "<lambda>") :
    LEnv P w K mg base T (He.ga K pC) (He.ga K "BadPattern") (He.ga K bS) := by
  have A := pat_at d.c
  have E := ePat d tp
  obtain ⟨fdi, Gi, bi, ki⟩ := init_at (P := P) (w := w) (base := base) d tp
  obtain ⟨fde, Fe⟩ := cd_at d.c 1 (d := meD "__eq__" "Pattern.__eq__" 1) rfl
  exact {
    begun := df_begun d
    take := df_take d
    shuf := df_shuf d
    titles := df_titles d
    pat := df_lpat d
    due := df_ldue d
    spo := df_lspo d
    right := df_right d tp TB h1 h2
    caught := caught_at d
    make := ⟨_, fdi, Gi, A.mr, bi, fun s u a b _ => ki s u a b⟩
    gC := d.pat
    tx := A.tx
    eq := ⟨_, fde, ok_eq Fe.toFun A.tx A.is d.isinst d.pat, Fe.toFun.binds fun _ _ _ _ _ _ us hl => match us, hl with | [_, _], _ => rfl, A.eq, A.eqF⟩
    ne0 := A.ne
    nf1 := A.n1
    nf2 := A.n2
    dct := A.dc
    hm := A.is.hm
    p1 := p1_at d
    p2 := p2_at d
    p3 := p3_at d
    p4 := p4_at d
    gB := E.gl
    is := E.is
    own := E.own
    no := E.no
    ex := E.ex
    gS := d.still
    fr := fun x hx => by
      simp only [List.mem_cons, List.not_mem_nil, or_false] at hx
      rcases hx with rfl | rfl | rfl | rfl | rfl | rfl | rfl | rfl | rfl | rfl
      · exact d.range
      · exact d.max
      · exact d.min
      · exact d.len
      · exact d.isinst
      · exact d.dict
      · exact d.list
      · exact d.sorted
      · exact d.tuple
      · exact d.repr }
end
/-- the tables of the two defs that make lambdas -/
def csK (K : PySem.W.Frag) : List (Addr × Addr) := [(cdq K (He.ga K "_law_rows_right"), tbq K "_law_rows_right"), (cdq K (He.ga K "law"), tbq K "law")]
def ttK (K : PySem.W.Frag) : List (Addr × Str) := [(tbq K "_law_rows_right", ("_law_rows_right.<locals>." : Str) ++ "<lambda>"), (tbq K "law", ("law.<locals>." : Str) ++ "<lambda>")]
theorem cs_all {K : PySem.W.Frag} {φ : Addr × Addr → Prop} (f : ∀ x ∈ TN, φ (cdq K (He.ga K x), tbq K x)) : ∀ p ∈ csK K, φ p := fun p hp => by
  unfold csK at hp
  rcases List.mem_cons.mp hp with rfl | hp
  · exact f "_law_rows_right" (by unfold TN; exact List.mem_cons_self ..)
  · rw [List.mem_singleton.mp hp]
    exact f "law" (by unfold TN; exact List.mem_cons_of_mem _ (List.mem_cons_self ..))
theorem facts {P : Program} {w : World} {K : PySem.W.Frag} {h : Heap} {mg : Str → Option Value} {f : Addr} (d : Hd P.main.file K h mg) (tp : (P.main.scope.names.lookup ("super" : Str)).isSome = false) (hfa : mg ("law" : Str) = some (.ref f)) :
    ∃ fd : FuncData, (∀ (s : Shared) (v : Value), BindsTo s fd ⟨[v], []⟩ [("_law_script", v)]) ∧ ∀ base : Heap, K.In base → base.Ns mainGlobals mg → (∀ p ∈ csK K, TabB base mg p.1 p.2) → Gd.FnOkG P w K mg base CX0 9 f fd ["_law_script"] (spLaw K (ttK K)) := by
  obtain ⟨fd, F⟩ := md_at d.c 27 (x := "law") (n := 36) rfl
  have e := hfa.symm.trans (gl_at d.X d.G d.c 27 (x := "law") (n := 36) rfl)
  cases e
  refine ⟨fd, fun s v => ?_, fun base _ _ TB => ?_⟩
  · obtain ⟨oc, od, kV, doc, pm, an, ct, osl, rfl, _, _⟩ := F.ex
    exact .of_eq rfl
  · have ne := tab_ne d.c
    have TR : TabB base mg (cdq K (He.ga K "_law_rows_right")) (tbq K "_law_rows_right") := TB (cdq K (He.ga K "_law_rows_right"), tbq K "_law_rows_right") (List.mem_cons_self ..)
    have TL : TabB base mg (cdq K (He.ga K "law")) (tbq K "law") := TB (cdq K (He.ga K "law"), tbq K "law") (List.mem_cons_of_mem _ (List.mem_cons_self ..))
    refine ok_law F (env_at (w := w) d tp TR (T := ttK K) (List.mem_cons_self ..) fun p hp e => ?_) TL (List.mem_cons_of_mem _ (List.mem_cons_self ..)) (fun p hp e => ?_) (sys_at d.c)
    · rcases List.mem_cons.mp hp with rfl | hp
      · rfl
      · rw [List.mem_singleton.mp hp] at e
        exact absurd e.symm ne
    · rcases List.mem_cons.mp hp with rfl | hp
      · exact absurd e ne
      · rw [List.mem_singleton.mp hp]
end Hk
-- part Hk4
set_option maxHeartbeats 0
open PySem PySem.W PySem.Calls PyProof.Rows
theorem PySem.Challenge.cw_stillknown_k02_patterns_made_and_fitted_holds : PySem.Challenge.rw_stillknown_k02_patterns_made_and_fitted.Holds := by
  w_on; o_law
  refine HandSHeadRun.head_any (r := OpenLaw.row PySem.Challenge.rw_stillknown_k02_patterns_made_and_fitted) (q := view (OpenLaw.row PySem.Challenge.rw_stillknown_k02_patterns_made_and_fitted).prog [36]) (H := Hk.hk) (ob := Hk.ob) (M := 6000) (loose := Hk.loose) (d := HandSHeadRun.topDef (OpenLaw.row PySem.Challenge.rw_stillknown_k02_patterns_made_and_fitted).prog 36) (kwd := []) Hk.ob_eq
    (by kernel_rfl) (fun s => by kernel_rfl) Hk.run (by kernel_rfl) (by kernel_rfl) (by kernel_rfl) (by rfl) (by first | assumption | decide +kernel) (by decide +kernel) ⟨rfl, rfl, rfl, rfl, rfl, by decide +kernel⟩ ?hw ?hc
  case hw => w_witness2
  case hc =>
    refine Gd.walkGET (l := PySem.Challenge.rw_stillknown_k02_patterns_made_and_fitted) (n := 63) (k := 9) (x := "_law_script") rfl (by decide) (by kernel_rfl) ⟨rfl, by decide, by decide⟩ ?F
    intro w mg fa h Y G hmg0
    obtain ⟨K, KX, c⟩ := Y
    have hmg : mg ("law" : PySem.Str) = some (.ref fa) := by
      have e : (HandSHeadRun.topDef (OpenLaw.row PySem.Challenge.rw_stillknown_k02_patterns_made_and_fitted).prog 36).name = ("law" : PySem.Str) := by kernel_rfl
      rw [← e]
      exact hmg0
    obtain ⟨fd, hb, hF⟩ := Hk.facts (P := (OpenLaw.row PySem.Challenge.rw_stillknown_k02_patterns_made_and_fitted).prog) (w := w) ⟨KX, G, c⟩ (by decide +kernel) hmg
    refine ⟨K, fd, Kn.spLaw K (Hk.ttK K), Hk.csK K, KX, Hk.cs_all fun x hx => (Hk.tab_at c hx).1, Hk.cs_all fun x hx => c.tb x hx, Hk.cs_all fun x hx => (Hk.tab_at c hx).2, hb, fun H a ns hl hT hS => ⟨a, ns, rfl, hS, hl, fun p hp => ?_, fun _ => rfl⟩, hF⟩
    have z : p.1 ∈ (Hk.csK K).map (·.2) := by
      rcases List.mem_cons.mp hp with rfl | hp
      · exact List.mem_cons_self ..
      · rw [List.mem_singleton.mp hp]
        exact List.mem_cons_of_mem _ (List.mem_cons_self ..)
    obtain ⟨r, hr, e⟩ := List.mem_map.mp z
    exact LamX.TabS.nil (e ▸ hT r hr)
